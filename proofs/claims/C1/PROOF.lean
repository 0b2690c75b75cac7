import PyProof.Rows.All
import PyKqk3
import Wide.All
import OpenK.AllK
import Wide.FinOn
import Open.SpecLaws
import KE.OsGo
import KE.SortKeyHeap
import HandS.ForSpec
import HandS.Comp
import HandS.Conv
import HandS.WideBits
import HandS.Lambda
import HandS.Nested
import PySem.Challenge.RW_heatcascades_s01_answers
set_option autoImplicit false
/-! Heat cascades: lists and numbers alone. What the document's functions are, said over a plain list of users. -/
namespace HC
open Kqk3

/-! ### loads -/
def occ (u : User) (g : Nat) : Bool := decide (u.returned < g) && decide (g ≤ u.supply)
theorem occ_is (u : User) (g : Nat) : occ u g = occupies u g := by
  unfold occ occupies
  exact Bool.and_comm _ _
def ucnt (us : List User) (g : Nat) : Nat := (us.filter fun u => occ u g).length
def peakOf (us : List User) (gc : Nat) : Nat := ((List.range gc).map fun i => ucnt us (i + 1)).foldl max 0
theorem users_range : ∀ (us : List User) (d : User), (List.range us.length).map (fun i => us.getD i d) = us := by
  intro us d
  apply List.ext_getElem
  · simp
  · intro i h1 h2
    simp at h1
    simp [List.getD_eq_getElem?_getD, List.getElem?_eq_getElem h1]
/-- the users that a set names -/
def pick (us : List User) (ms : List Nat) : List User := ms.map fun i => us.getD i ⟨1, 0, 0⟩
theorem pick_all (us : List User) : pick us (List.range us.length) = us := users_range us _
theorem load_is (n : Network) (set g : Nat) : Kqk3.load n set g = ucnt (pick n.users (members n set)) g := by
  unfold Kqk3.load ucnt pick
  rw [List.filter_map, List.length_map]
  congr 1
  refine List.filter_congr fun i _ => ?_
  show (decide (g ≤ (user n i).supply) && decide ((user n i).returned < g)) = (decide ((user n i).returned < g) && decide (g ≤ (user n i).supply))
  exact Bool.and_comm _ _
theorem peak_is (n : Network) (set : Nat) : Kqk3.peakLoad n set = peakOf (pick n.users (members n set)) n.gradeCount := by
  unfold Kqk3.peakLoad peakOf
  congr 1
  exact List.map_congr_left fun i _ => load_is n set (i + 1)
theorem bit_is (m i : Nat) : decide (m / 2 ^ i % 2 = 1) = m.testBit i := (Nat.testBit_eq_decide_div_mod_eq (x := m) (i := i)).symm
theorem members_all (n : Network) : members n (allUsersSet n) = List.range n.users.length := by
  unfold members allUsersSet allUsers
  rw [List.filter_eq_self]
  intro i hi
  rw [List.mem_range] at hi
  rw [bit_is, Nat.testBit_two_pow_sub_one]
  exact decide_eq_true hi
theorem load_all (n : Network) (g : Nat) : Kqk3.load n (allUsersSet n) g = ucnt n.users g := by
  rw [load_is, members_all, pick_all]
theorem peak_all (n : Network) : Kqk3.peakLoad n (allUsersSet n) = peakOf n.users n.gradeCount := by
  rw [peak_is, members_all, pick_all]

/-! ### the greatest of a list -/
theorem foldl_max_ge : ∀ (l : List Nat) (a : Nat), a ≤ l.foldl max a ∧ ∀ x ∈ l, x ≤ l.foldl max a
  | [], a => ⟨Nat.le_refl _, fun x h => absurd h (by simp)⟩
  | y :: l, a => by
    obtain ⟨h1, h2⟩ := foldl_max_ge l (max a y)
    refine ⟨Nat.le_trans (Nat.le_max_left a y) h1, fun x hx => ?_⟩
    rcases List.mem_cons.mp hx with e | m
    · rw [e]; exact Nat.le_trans (Nat.le_max_right a y) h1
    · exact h2 x m
theorem foldl_max_in : ∀ (l : List Nat) (a : Nat), l.foldl max a = a ∨ l.foldl max a ∈ l
  | [], a => .inl rfl
  | y :: l, a => by
    rcases foldl_max_in l (max a y) with h | h
    · have h' : (y :: l).foldl max a = max a y := h
      rw [h']
      rcases Nat.le_total a y with q | q
      · rw [Nat.max_eq_right q]; exact .inr (.head _)
      · rw [Nat.max_eq_left q]; exact .inl rfl
    · exact .inr (.tail _ h)
/-- what max() gives of a list that isn't empty -/
theorem max_is {l : List Nat} {m : Nat} (hm : m ∈ l) (hg : ∀ y ∈ l, y ≤ m) : l.foldl max 0 = m := by
  obtain ⟨_, h2⟩ := foldl_max_ge l 0
  rcases foldl_max_in l 0 with h | h
  · rw [h] at h2 ⊢
    exact (Nat.le_zero.mp (h2 m hm)).symm
  · exact Nat.le_antisymm (hg _ h) (h2 m hm)
theorem ucnt_le (us : List User) (g : Nat) : ucnt us g ≤ us.length := List.length_filter_le _ _
theorem peakOf_le (us : List User) (gc : Nat) : peakOf us gc ≤ us.length := by
  rcases foldl_max_in ((List.range gc).map fun i => ucnt us (i + 1)) 0 with h | h
  · unfold peakOf; rw [h]; exact Nat.zero_le _
  · unfold peakOf
    obtain ⟨i, _, e⟩ := List.mem_map.mp h
    rw [← e]; exact ucnt_le _ _
theorem ucnt_le_peak {us : List User} {gc g : Nat} (h1 : 1 ≤ g) (h2 : g ≤ gc) : ucnt us g ≤ peakOf us gc := by
  refine (foldl_max_ge _ 0).2 _ (List.mem_map.mpr ⟨g - 1, List.mem_range.mpr (by omega), ?_⟩)
  have e : g - 1 + 1 = g := by omega
  rw [e]
theorem peak_reached {us : List User} {gc : Nat} (h : 1 ≤ gc) : ∃ g, g < gc ∧ ucnt us (g + 1) = peakOf us gc := by
  rcases foldl_max_in ((List.range gc).map fun i => ucnt us (i + 1)) 0 with q | q
  · refine ⟨0, by omega, ?_⟩
    have h1 := ucnt_le_peak (us := us) (gc := gc) (g := 1) (Nat.le_refl _) h
    have h2 : peakOf us gc = 0 := q
    show ucnt us 1 = _
    omega
  · obtain ⟨i, hi, e⟩ := List.mem_map.mp q
    exact ⟨i, List.mem_range.mp hi, e⟩
/-- the lowest grade with the peak load -/
theorem peakGrade_is {n : Network} {g : Nat} (hg : g < n.gradeCount) (h1 : ∀ i, i < g → ucnt n.users (i + 1) < peakOf n.users n.gradeCount) (h2 : peakOf n.users n.gradeCount ≤ ucnt n.users (g + 1)) : peakGradeOf n = some (g + 1) := by
  unfold peakGradeOf
  have e : ((List.range n.gradeCount).find? fun i => Kqk3.load n (allUsersSet n) (i + 1) == Kqk3.peakLoad n (allUsersSet n)) = some g := by
    rw [List.find?_range_eq_some]
    refine ⟨?_, List.mem_range.mpr hg, fun j hj => ?_⟩
    · rw [load_all, peak_all, beq_iff_eq]
      exact Nat.le_antisymm (ucnt_le_peak (by omega) (by omega)) h2
    · rw [load_all, peak_all]
      have z := h1 j hj
      simp only [Bool.not_eq_true', beq_eq_false_iff_ne]
      omega
  rw [e]; rfl
/-! ### cascades -/
def usr (us : List User) (i : Nat) : User := us.getD i ⟨1, 0, 0⟩
def lastOf (c : List Nat) : Nat := c.getLastD 0
/-- the place of the first cascade that can take the user, or the place behind them all -/
def placeFor (us : List User) (cs : List (List Nat)) (i : Nat) : Nat := (cs.findIdx? fun c => decide ((usr us i).supply ≤ (usr us (lastOf c)).returned)).getD cs.length
def cascIn (us : List User) (cs : List (List Nat)) (i : Nat) : List (List Nat) :=
  if placeFor us cs i = cs.length then cs ++ [[i]] else cs.set (placeFor us cs i) (cs.getD (placeFor us cs i) [] ++ [i])
theorem findIdx_lt {α : Type} {p : α → Bool} : ∀ {l : List α} {k : Nat}, l.findIdx? p = some k → k < l.length ∧ ∃ x, l[k]? = some x ∧ p x = true := by
  intro l k h
  have h1 := List.findIdx?_eq_some_iff_getElem.mp h
  obtain ⟨hk, hp, _⟩ := h1
  exact ⟨hk, l[k], List.getElem?_eq_getElem hk, hp⟩
theorem placeFor_le (us : List User) (cs : List (List Nat)) (i : Nat) : placeFor us cs i ≤ cs.length := by
  unfold placeFor
  cases h : cs.findIdx? fun c => decide ((usr us i).supply ≤ (usr us (lastOf c)).returned) with
  | none => exact Nat.le_refl _
  | some k => exact Nat.le_of_lt (findIdx_lt h).1
theorem placeFor_of {us : List User} {cs : List (List Nat)} {i k : Nat} (hk : k < cs.length) (hp : ∀ c, cs[k]? = some c → (usr us i).supply ≤ (usr us (lastOf c)).returned)
    (hn : ∀ (j : Nat) (c : List Nat), j < k → cs[j]? = some c → ¬ (usr us i).supply ≤ (usr us (lastOf c)).returned) : placeFor us cs i = k := by
  unfold placeFor
  have e : (cs.findIdx? fun c => decide ((usr us i).supply ≤ (usr us (lastOf c)).returned)) = some k := by
    rw [List.findIdx?_eq_some_iff_getElem]
    refine ⟨hk, decide_eq_true (hp _ (List.getElem?_eq_getElem hk)), fun j hj => ?_⟩
    have z := hn j (cs[j]'(Nat.lt_trans hj hk)) hj (List.getElem?_eq_getElem _)
    simpa using z
  rw [e]; rfl
theorem placeFor_end {us : List User} {cs : List (List Nat)} {i : Nat} (hn : ∀ (j : Nat) (c : List Nat), cs[j]? = some c → ¬ (usr us i).supply ≤ (usr us (lastOf c)).returned) : placeFor us cs i = cs.length := by
  unfold placeFor
  have e : (cs.findIdx? fun c => decide ((usr us i).supply ≤ (usr us (lastOf c)).returned)) = none := by
    rw [List.findIdx?_eq_none_iff]
    intro c hc
    obtain ⟨j, hj⟩ := List.getElem?_of_mem hc
    simpa using hn j c hj
  rw [e]; rfl
theorem last_snoc (c : List Nat) (i : Nat) : lastOf (c ++ [i]) = i := by
  unfold lastOf
  simp [List.getLastD_eq_getLast?]
def Told (us : List User) (cs : List (List Nat × Nat)) : Prop := ∀ c ∈ cs, c.2 = (usr us (lastOf c.1)).returned
theorem assign_one (n : Network) (i : Nat) (rest : List Nat) (cs : List (List Nat × Nat)) (h : Told n.users cs) :
    ∃ cs', assign n (i :: rest) cs = assign n rest cs' ∧ cs'.map (·.1) = cascIn n.users (cs.map (·.1)) i ∧ Told n.users cs' := by
  have ef : ((cs.map (·.1)).findIdx? fun c => decide ((usr n.users i).supply ≤ (usr n.users (lastOf c)).returned)) = cs.findIdx? fun c => decide ((user n i).supply ≤ c.2) := by
    rw [List.findIdx?_map]
    have z : ∀ (l : List (List Nat × Nat)), (∀ c ∈ l, c.2 = (usr n.users (lastOf c.1)).returned) → (l.findIdx? fun c => decide ((usr n.users i).supply ≤ (usr n.users (lastOf c.1)).returned)) = l.findIdx? fun c => decide ((user n i).supply ≤ c.2) := by
      intro l
      induction l with
      | nil => intro _; rfl
      | cons c l ih =>
        intro hc
        have e1 := hc c (.head _)
        have e2 := ih fun d hd => hc d (.tail _ hd)
        rw [List.findIdx?_cons, List.findIdx?_cons, e2, e1]
        rfl
    exact z cs h
  rw [assign]
  unfold cascIn placeFor
  rw [ef, List.length_map]
  cases e : cs.findIdx? fun c => decide ((user n i).supply ≤ c.2) with
  | none =>
    refine ⟨_, rfl, ?_, ?_⟩
    · show _ = if cs.length = cs.length then _ else _
      rw [if_pos rfl, List.map_append]; rfl
    · intro c hc
      rcases List.mem_append.mp hc with m | m
      · exact h c m
      · rw [List.mem_singleton] at m
        rw [m]; rfl
  | some k =>
    obtain ⟨hk, x, hx, _⟩ := findIdx_lt e
    refine ⟨_, rfl, ?_, ?_⟩
    · rw [if_neg (by show ¬ k = cs.length; omega), List.map_set]
      have e1 : (cs.map (·.1)).getD k [] = (cs.getD k ([], 0)).1 := by
        rw [List.getD_eq_getElem?_getD, List.getD_eq_getElem?_getD, List.getElem?_map, hx]; rfl
      show (cs.map (·.1)).set k _ = (cs.map (·.1)).set k ((cs.map (·.1)).getD k [] ++ [i])
      rw [e1]
    · intro c hc
      rcases List.mem_or_eq_of_mem_set hc with m | m
      · exact h c m
      · rw [m]
        show _ = (usr n.users (lastOf _)).returned
        rw [last_snoc]; rfl
def cascAll (us : List User) (l : List Nat) (cs : List (List Nat)) : List (List Nat) := l.foldl (cascIn us) cs
theorem assign_all (n : Network) : ∀ (l : List Nat) (cs : List (List Nat × Nat)), Told n.users cs → (assign n l cs).map (·.1) = cascAll n.users l (cs.map (·.1))
  | [], cs, _ => by rw [assign]; rfl
  | i :: rest, cs, h => by
    obtain ⟨cs', e1, e2, e3⟩ := assign_one n i rest cs h
    rw [e1, assign_all n rest cs' e3, e2]; rfl
theorem cascades_are (n : Network) (set : Nat) : cascades n set = cascAll n.users (bySupply n set) [] := by
  unfold cascades
  rw [assign_all n _ [] (fun c hc => absurd hc (by simp))]; rfl
theorem cascIn_length (us : List User) (cs : List (List Nat)) (i : Nat) : (cascIn us cs i).length ≤ cs.length + 1 := by
  unfold cascIn
  split
  · simp
  · simp

end HC

set_option autoImplicit false
namespace HC
open Kqk3
/-! ### the order of the cascade assignment: by descending supply grade, then by number -/
def leBy (us : List User) (p q : Nat) : Bool := decide (-((usr us p).supply : Int) < -((usr us q).supply : Int) ∨ (-((usr us p).supply : Int) = -((usr us q).supply : Int) ∧ (p : Int) ≤ (q : Int)))
theorem leBy_iff {us : List User} {p q : Nat} : leBy us p q = true ↔ (usr us q).supply < (usr us p).supply ∨ ((usr us p).supply = (usr us q).supply ∧ p ≤ q) := by
  unfold leBy
  rw [decide_eq_true_iff]
  omega
theorem descend (us : List User) (l : List Nat) (hl : l.Pairwise (· < ·)) : ∀ m : Nat,
    (((List.range (m + 1)).reverse.flatMap fun g => l.filter fun i => (usr us i).supply == g).Perm (l.filter fun i => decide ((usr us i).supply ≤ m))) ∧
    ((List.range (m + 1)).reverse.flatMap fun g => l.filter fun i => (usr us i).supply == g).Pairwise (fun a b => leBy us a b = true) := by
  have part : ∀ g : Nat, (l.filter fun i => (usr us i).supply == g).Pairwise (fun a b => leBy us a b = true) := fun g => by
    rw [List.pairwise_filter]
    refine hl.imp fun {a b} hab ha hb => ?_
    rw [beq_iff_eq] at ha hb
    rw [leBy_iff]
    exact .inr ⟨by rw [ha, hb], Nat.le_of_lt hab⟩
  intro m
  induction m with
  | zero =>
    have e : ((List.range (0 + 1)).reverse.flatMap fun g => l.filter fun i => (usr us i).supply == g) = l.filter fun i => (usr us i).supply == 0 := by
      show ([0] : List Nat).flatMap _ = _
      simp
    rw [e]
    refine ⟨?_, part 0⟩
    have e2 : (l.filter fun i => (usr us i).supply == 0) = l.filter fun i => decide ((usr us i).supply ≤ 0) := List.filter_congr fun i _ => by
      cases h : (usr us i).supply with
      | zero => rfl
      | succ k => simp
    rw [e2]
  | succ m ih =>
    have e : ((List.range (m + 1 + 1)).reverse.flatMap fun g => l.filter fun i => (usr us i).supply == g) =
        (l.filter fun i => (usr us i).supply == m + 1) ++ ((List.range (m + 1)).reverse.flatMap fun g => l.filter fun i => (usr us i).supply == g) := by
      rw [List.range_succ (n := m + 1), List.reverse_append]; rfl
    rw [e]
    refine ⟨?_, List.pairwise_append.mpr ⟨part _, ih.2, fun a ha b hb => ?_⟩⟩
    · have h1 := List.filter_append_perm (fun i => (usr us i).supply == m + 1) (l.filter fun i => decide ((usr us i).supply ≤ m + 1))
      rw [List.filter_filter, List.filter_filter] at h1
      have e1 : (l.filter fun i => (usr us i).supply == m + 1 && decide ((usr us i).supply ≤ m + 1)) = l.filter fun i => (usr us i).supply == m + 1 := List.filter_congr fun i _ => by
        by_cases q : (usr us i).supply = m + 1
        · simp [q]
        · simp [q]
      have e2 : (l.filter fun i => !((usr us i).supply == m + 1) && decide ((usr us i).supply ≤ m + 1)) = l.filter fun i => decide ((usr us i).supply ≤ m) := List.filter_congr fun i _ => by
        by_cases q : (usr us i).supply = m + 1
        · simp [q]
        · by_cases q2 : (usr us i).supply ≤ m
          · simp [q, q2]; omega
          · simp [q, q2]; omega
      rw [e1, e2] at h1
      exact (ih.1.append_left _).trans h1
    · have ha' := (List.mem_filter.mp ha).2
      have hb' := (List.mem_filter.mp ((ih.1.mem_iff).mp hb)).2
      rw [beq_iff_eq] at ha'
      rw [decide_eq_true_iff] at hb'
      rw [leBy_iff]
      exact .inl (by omega)
theorem members_lt (n : Network) (set : Nat) : (members n set).Pairwise (· < ·) := by
  unfold members allUsers
  exact List.pairwise_lt_range.filter _
theorem members_in {n : Network} {set i : Nat} (h : i ∈ members n set) : i < n.users.length := by
  unfold members allUsers at h
  exact List.mem_range.mp (List.mem_filter.mp h).1
/-- sorted by key gives the document's order -/
theorem sort_is (n : Network) (set : Nat) (h : ∀ i, i < n.users.length → (usr n.users i).supply ≤ n.gradeCount) : (members n set).mergeSort (leBy n.users) = bySupply n set := by
  obtain ⟨h1, h2⟩ := descend n.users (members n set) (members_lt n set) n.gradeCount
  have e : (members n set).filter (fun i => decide ((usr n.users i).supply ≤ n.gradeCount)) = members n set := List.filter_eq_self.mpr fun i hi => decide_eq_true (h i (members_in hi))
  rw [e] at h1
  have p2 : ((members n set).mergeSort (leBy n.users)).Pairwise (fun a b => leBy n.users a b = true) := List.pairwise_mergeSort (fun a b c => by
    rw [leBy_iff, leBy_iff, leBy_iff]; omega) (fun a b => by
    rw [Bool.or_eq_true, leBy_iff, leBy_iff]; omega) _
  refine List.Perm.eq_of_pairwise (le := fun a b => leBy n.users a b = true) (fun a b _ _ hab hba => ?_) p2 h2 ((List.mergeSort_perm _ _).trans h1.symm)
  rw [leBy_iff] at hab hba
  omega
theorem mem_bySupply {n : Network} {set i : Nat} (h : i ∈ bySupply n set) : i ∈ members n set := by
  unfold bySupply at h
  obtain ⟨g, _, hg⟩ := List.mem_flatMap.mp h
  exact (List.mem_filter.mp hg).1
end HC

set_option linter.all false
/-! The best set, the marginal value, the loss, prices: numbers alone. -/
namespace HC
open Kqk3
theorem sum_acc : ∀ (l : List Nat) (a : Nat), l.foldl (fun x y => x + y) a = a + l.sum
  | [], a => by simp
  | y :: l, a => by
    show l.foldl (fun x y => x + y) (a + y) = a + (y :: l).sum
    rw [sum_acc l, List.sum_cons, Nat.add_assoc]
theorem sum_eq (l : List Nat) : Kqk3.sum l = l.sum := by
  unfold Kqk3.sum
  rw [sum_acc, Nat.zero_add]
def worth (us : List User) : Nat := (us.map fun u => u.value).sum
theorem value_is (n : Network) (set : Nat) : valueOf n set = worth (pick n.users (members n set)) := by
  unfold valueOf worth pick
  rw [sum_eq, List.map_map]
  rfl
/-! ### the best set -/
def bestTo (n : Network) (k m : Nat) : Nat := (List.range m).foldl (fun best set => if Kqk3.peakLoad n set ≤ k ∧ valueOf n best < valueOf n set then set else best) 0
theorem best_is (n : Network) (k : Nat) : bestSet n k = bestTo n k (2 ^ n.users.length) := rfl
theorem bestTo_zero (n : Network) (k : Nat) : bestTo n k 0 = 0 := rfl
theorem bestTo_succ (n : Network) (k m : Nat) : bestTo n k (m + 1) = if Kqk3.peakLoad n m ≤ k ∧ valueOf n (bestTo n k m) < valueOf n m then m else bestTo n k m := by
  unfold bestTo
  rw [List.range_succ, List.foldl_append]
  rfl
theorem members_zero (n : Network) : members n 0 = [] := by
  unfold members
  rw [List.filter_eq_nil_iff]
  intro i _
  simp
theorem value_zero (n : Network) : valueOf n 0 = 0 := by
  rw [value_is, members_zero]
  rfl
theorem peak_zero (n : Network) : Kqk3.peakLoad n 0 = 0 := by
  rw [peak_is, members_zero]
  have h := peakOf_le (pick n.users []) n.gradeCount
  have e : (pick n.users []).length = 0 := rfl
  omega
theorem bestTo_fits (n : Network) (k : Nat) : ∀ m, Kqk3.peakLoad n (bestTo n k m) ≤ k ∧ (bestTo n k m < m ∨ bestTo n k m = 0)
  | 0 => by
    rw [bestTo_zero, peak_zero]
    exact ⟨Nat.zero_le _, .inr rfl⟩
  | m + 1 => by
    obtain ⟨h1, h2⟩ := bestTo_fits n k m
    rw [bestTo_succ]
    split
    next h => exact ⟨h.1, .inl (Nat.lt_succ_self m)⟩
    next => exact ⟨h1, by omega⟩
theorem bestTo_most (n : Network) (k : Nat) : ∀ m s, s < m → Kqk3.peakLoad n s ≤ k → valueOf n s ≤ valueOf n (bestTo n k m)
  | 0, s, h, _ => absurd h (Nat.not_lt_zero s)
  | m + 1, s, h, hp => by
    rw [bestTo_succ]
    by_cases e : s = m
    · subst e
      split
      · exact Nat.le_refl _
      · omega
    · have z := bestTo_most n k m s (by omega) hp
      split <;> omega
theorem best_fits (n : Network) (k : Nat) : Kqk3.peakLoad n (bestSet n k) ≤ k ∧ bestSet n k < 2 ^ n.users.length := by
  obtain ⟨h1, h2⟩ := bestTo_fits n k (2 ^ n.users.length)
  have := Nat.two_pow_pos n.users.length
  rw [best_is]
  exact ⟨h1, by omega⟩
theorem best_most (n : Network) (k s : Nat) (h : s < 2 ^ n.users.length) (hp : Kqk3.peakLoad n s ≤ k) : valueOf n s ≤ valueOf n (bestSet n k) := bestTo_most n k _ s h hp
/-- more cascades serve no less -/
theorem best_mono (n : Network) {k k' : Nat} (h : k ≤ k') : valueOf n (bestSet n k) ≤ valueOf n (bestSet n k') := by
  obtain ⟨h1, h2⟩ := best_fits n k
  exact best_most n k' _ h2 (Nat.le_trans h1 h)
/-! ### a user less -/
def sel : List User → (Nat → Bool) → List User
  | [], _ => []
  | u :: us, p => if p 0 then u :: sel us (fun j => p (j + 1)) else sel us fun j => p (j + 1)
theorem pick_sel : ∀ (us : List User) (p : Nat → Bool), pick us ((List.range us.length).filter p) = sel us p
  | [], p => rfl
  | u :: us, p => by
    have ih := pick_sel us fun j => p (j + 1)
    unfold pick at ih ⊢
    rw [List.length_cons, List.range_succ_eq_map, List.filter_cons, sel, List.filter_map]
    have e : ∀ l : List Nat, (l.map Nat.succ).map (fun i => (u :: us).getD i (⟨1, 0, 0⟩ : User)) = l.map fun i => us.getD i ⟨1, 0, 0⟩ := fun l => by
      rw [List.map_map]
      rfl
    have ef : (p ∘ Nat.succ) = fun j => p (j + 1) := rfl
    split
    · rw [List.map_cons, e, ef, ih]
      rfl
    · rw [e, ef, ih]
theorem sel_erase : ∀ (us : List User) (i : Nat) (p : Nat → Bool), i < us.length → sel (us.eraseIdx i) p = sel us fun j => if j < i then p j else if j = i then false else p (j - 1)
  | [], i, p, h => absurd h (by simp)
  | u :: us, 0, p, _ => by
    rw [List.eraseIdx_cons_zero, sel]
    simp
  | u :: us, i + 1, p, h => by
    rw [List.eraseIdx_cons_succ, sel, sel, sel_erase us i _ (by simpa using h)]
    have e : (fun j => if j < i then p (j + 1) else if j = i then false else p (j - 1 + 1)) = fun j => if j + 1 < i + 1 then p (j + 1) else if j + 1 = i + 1 then false else p (j + 1 - 1) := by
      funext j
      by_cases h1 : j < i
      · simp [h1]
      · by_cases h2 : j = i
        · simp [h2]
        · have e : j - 1 + 1 = j := by omega
          simp [h1, h2, e]
    rw [e]
    simp
theorem members_sel (n : Network) (set : Nat) : pick n.users (members n set) = sel n.users fun j => set.testBit j := by
  unfold members allUsers
  rw [← pick_sel]
  congr 2
  funext i
  exact bit_is set i
def widen (i s : Nat) : Nat := s % 2 ^ i + 2 ^ (i + 1) * (s / 2 ^ i)
theorem widen_bit (i s j : Nat) : (widen i s).testBit j = if j < i then s.testBit j else if j = i then false else s.testBit (j - 1) := by
  have small : s % 2 ^ i < 2 ^ (i + 1) := Nat.lt_of_lt_of_le (Nat.mod_lt _ (Nat.two_pow_pos i)) (Nat.pow_le_pow_right (by decide) (Nat.le_succ i))
  unfold widen
  rw [Nat.add_comm, Nat.testBit_two_pow_mul_add _ small]
  by_cases h1 : j < i
  · rw [if_pos h1, if_pos (by omega), Nat.testBit_mod_two_pow]
    simp [h1]
  · rw [if_neg h1]
    by_cases h2 : j = i
    · subst h2
      rw [if_pos rfl, if_pos (by omega), Nat.testBit_mod_two_pow]
      simp
    · rw [if_neg h2, if_neg (by omega), Nat.testBit_div_two_pow]
      congr 1
      omega
theorem widen_lt {i s n : Nat} (h : s < 2 ^ n) (hi : i ≤ n) : widen i s < 2 ^ (n + 1) := by
  unfold widen
  have h1 : s % 2 ^ i < 2 ^ i := Nat.mod_lt _ (Nat.two_pow_pos i)
  have h2 : s / 2 ^ i < 2 ^ (n - i) := by
    rw [Nat.div_lt_iff_lt_mul (Nat.two_pow_pos i), ← Nat.pow_add]
    have : n - i + i = n := by omega
    rw [this]
    exact h
  have h3 : 2 ^ (i + 1) * (s / 2 ^ i) + 2 ^ (i + 1) ≤ 2 ^ (i + 1) * 2 ^ (n - i) := by
    rw [← Nat.mul_succ]
    exact Nat.mul_le_mul_left _ h2
  rw [← Nat.pow_add] at h3
  have h4 : i + 1 + (n - i) = n + 1 := by omega
  rw [h4] at h3
  have h5 : 2 ^ i ≤ 2 ^ (i + 1) := Nat.pow_le_pow_right (by decide) (Nat.le_succ i)
  omega
abbrev less (n : Network) (i : Nat) : Network := { n with users := n.users.eraseIdx i }
theorem widen_same (n : Network) {i : Nat} (h : i < n.users.length) (s : Nat) : pick n.users (members n (widen i s)) = pick (less n i).users (members (less n i) s) := by
  rw [members_sel, members_sel, sel_erase n.users i _ h]
  congr 1
  funext j
  exact widen_bit i s j
/-- without a user no more is served -/
theorem best_less (n : Network) {i : Nat} (h : i < n.users.length) (k : Nat) : valueOf (less n i) (bestSet (less n i) k) ≤ valueOf n (bestSet n k) := by
  obtain ⟨h1, h2⟩ := best_fits (less n i) k
  have hl : (less n i).users.length = n.users.length - 1 := List.length_eraseIdx_of_lt h
  rw [hl] at h2
  have e := widen_same n h (bestSet (less n i) k)
  rw [value_is (less n i), ← e, ← value_is]
  refine best_most n k _ ?_ ?_
  · have := widen_lt (i := i) h2 (by omega)
    have z : n.users.length - 1 + 1 = n.users.length := by omega
    rwa [z] at this
  · rw [peak_is, e, ← peak_is (less n i)]
    exact h1
/-! ### prices -/
theorem slice_sum : ∀ (p : List Nat) (a b : Nat), ((List.range p.length).map fun g => if g + 1 ≤ b ∧ a < g + 1 then p.getD g 0 else 0).sum = ((p.take b).drop a).sum
  | [], a, b => by simp
  | x :: p, a, b => by
    rw [List.length_cons, List.range_succ_eq_map, List.map_cons, List.sum_cons, List.map_map]
    cases b with
    | zero =>
      have e : ∀ l : List Nat, (l.map fun _ => (0 : Nat)).sum = 0 := fun l => by
        induction l with
        | nil => rfl
        | cons y l ih => simp [ih]
      simpa [Function.comp_def] using e (List.range p.length)
    | succ b =>
      cases a with
      | zero =>
        have ih := slice_sum p 0 b
        have e : ((fun g => if g + 1 ≤ b + 1 ∧ 0 < g + 1 then (x :: p).getD g 0 else 0) ∘ Nat.succ) = fun g => if g + 1 ≤ b ∧ 0 < g + 1 then p.getD g 0 else 0 := by
          funext g
          simp
        rw [e, ih]
        simp
      | succ a =>
        have ih := slice_sum p a b
        have e : ((fun g => if g + 1 ≤ b + 1 ∧ a + 1 < g + 1 then (x :: p).getD g 0 else 0) ∘ Nat.succ) = fun g => if g + 1 ≤ b ∧ a < g + 1 then p.getD g 0 else 0 := by
          funext g
          simp
        rw [e, ih]
        simp
theorem range_getD (p : List Nat) : (List.range p.length).map (fun g => p.getD g 0) = p := by
  apply List.ext_getElem
  · simp
  · intro i h1 h2
    simp [List.getD_eq_getElem?_getD, List.getElem?_eq_getElem h2]
def costOf (u : User) (p : List Nat) : Nat := ((p.take u.supply).drop u.returned).sum
theorem cost_is (n : Network) (p : List Nat) (i : Nat) (h : p.length = n.gradeCount) : cost n p i = costOf (user n i) p := by
  unfold cost costOf
  rw [sum_eq, ← h, slice_sum]
def dualOf (us : List User) (k : Nat) (p : List Nat) : Nat := k * p.sum + (us.map fun u => u.value - costOf u p).sum
theorem dual_is (n : Network) (k : Nat) (p : List Nat) (h : p.length = n.gradeCount) : Kqk3.dualBound n k p = dualOf n.users k p := by
  unfold Kqk3.dualBound dualOf
  rw [sum_eq, sum_eq, ← h, range_getD]
  congr 2
  unfold allUsers
  have e := users_range n.users ⟨1, 0, 0⟩
  conv => rhs; rw [← e]
  rw [List.map_map]
  refine List.map_congr_left fun i _ => ?_
  rw [cost_is n p i h]
  rfl
/-! ### the users of the peak -/
theorem peakUsers_is {n : Network} {g : Nat} (h : peakGradeOf n = some g) : peakUsersOf n = (List.range n.users.length).filter fun i => occ (usr n.users i) g := by
  unfold peakUsersOf
  rw [h]
  show (allUsers n).filter (fun i => occupies (user n i) g) = _
  unfold allUsers
  congr 1
  funext i
  exact (occ_is _ g).symm
end HC

set_option autoImplicit false
/-! The calls, one behind another in one list, as requests. -/
namespace HC
open Kqk3
def nums (l : List Nat) : List Int := l.map fun (x : Nat) => (x : Int)
/-- a request as it is handed in -/
def enc : Request → List Int
  | .create g => [0, (g : Int)]
  | .addUser s r v => [1, (s : Int), (r : Int), (v : Int)]
  | .removeUser i => [2, (i : Int)]
  | .listUsers => [3]
  | .setValue i v => [4, (i : Int), (v : Int)]
  | .load g => [5, (g : Int)]
  | .peakLoad => [6]
  | .peakGrade => [7]
  | .minCascades => [8]
  | .assignCascades set => [9, (set : Int)]
  | .isServable set k => [10, (set : Int), (k : Int)]
  | .bestSet k => [11, (k : Int)]
  | .valueOf set => [12, (set : Int)]
  | .marginalValue k => [13, (k : Int)]
  | .canFollow i j => [14, (i : Int), (j : Int)]
  | .peakUsers => [15]
  | .dualBound k ps => 16 :: (k : Int) :: (ps.length : Int) :: nums ps
  | .provesOptimality k ps => 17 :: (k : Int) :: (ps.length : Int) :: nums ps
  | .lossWithout i k => [18, (i : Int), (k : Int)]
  | .summary => [19]
/-- within what may be handed in -/
def Small (q : Request) : Prop := (∀ x ∈ enc q, x ≤ 4294967295) ∧ (∀ k ps, q = .dualBound k ps ∨ q = .provesOptimality k ps → ps.length ≤ 60)
def toldQ (s : Option Network) : List Request → List Int
  | [] => []
  | q :: qs => (((Kqk3Neutral.fields (Kqk3.step s q).2).length : Int) :: Kqk3Neutral.fields (Kqk3.step s q).2) ++ toldQ (Kqk3.step s q).1 qs
theorem nat32_iff {z : Int} : Kqk3Neutral.nat32 z = true ↔ 0 ≤ z ∧ z < 4294967296 := by
  unfold Kqk3Neutral.nat32
  rw [Bool.and_eq_true, decide_eq_true_iff, decide_eq_true_iff]
  exact Iff.rfl
theorem call0 {shape : Int → Option (Nat × Nat)} {p : Int} {r t : List Int} {c : List (List Int)} {n : Nat} (hs : shape p = some (n, 0)) (h : PyFlat.call shape (p :: r) = some (c, t)) : n ≤ r.length ∧ c = [p :: r.take n] ∧ t = r.drop n := by
  unfold PyFlat.call at h
  simp only [hs] at h
  by_cases hl : r.length < n
  · rw [if_pos hl] at h
    cases h
  · rw [if_neg hl] at h
    have e : PyFlat.rows 0 (r.drop n) = some ([], r.drop n) := rfl
    rw [e] at h
    simp only [Option.some.injEq, Prod.mk.injEq] at h
    exact ⟨Nat.le_of_not_lt hl, h.1.symm, h.2.symm⟩
theorem call1 {shape : Int → Option (Nat × Nat)} {p : Int} {r t : List Int} {c : List (List Int)} {n : Nat} (hs : shape p = some (n, 1)) (h : PyFlat.call shape (p :: r) = some (c, t)) :
    ∃ m r', n ≤ r.length ∧ r.drop n = m :: r' ∧ 0 ≤ m ∧ m.toNat ≤ r'.length ∧ c = [p :: r.take n, r'.take m.toNat] ∧ t = r'.drop m.toNat := by
  unfold PyFlat.call at h
  simp only [hs] at h
  by_cases hl : r.length < n
  · rw [if_pos hl] at h
    cases h
  · rw [if_neg hl] at h
    cases hd : r.drop n with
    | nil =>
      rw [hd] at h
      simp [PyFlat.rows, PyFlat.row] at h
    | cons m r' =>
      rw [hd] at h
      unfold PyFlat.rows PyFlat.row at h
      by_cases hm : 0 ≤ m ∧ m.toNat ≤ r'.length
      · simp only [if_pos hm, PyFlat.rows, Option.some.injEq, Prod.mk.injEq] at h
        exact ⟨m, r', Nat.le_of_not_lt hl, rfl, hm.1, hm.2, h.1.symm, h.2.symm⟩
      · simp only [if_neg hm] at h
        cases h
theorem toNat_back {z : Int} (h : 0 ≤ z) : ((z.toNat : Nat) : Int) = z := Int.toNat_of_nonneg h
theorem nums_back : ∀ {l : List Int}, (∀ z ∈ l, 0 ≤ z) → nums (l.map Kqk3Neutral.nat) = l
  | [], _ => rfl
  | z :: l, h => by
    show ((z.toNat : Nat) : Int) :: nums (l.map Kqk3Neutral.nat) = z :: l
    rw [toNat_back (h z (.head _)), nums_back fun y hy => h y (.tail _ hy)]
/-- a call with two arguments at most -/
theorem shape_cases (p : Int) {n k : Nat} (h : PyKqk3.shape p = some (n, k)) : p = 0 ∨ p = 1 ∨ p = 2 ∨ p = 3 ∨ p = 4 ∨ p = 5 ∨ p = 6 ∨ p = 7 ∨ p = 8 ∨ p = 9 ∨ p = 10 ∨ p = 11 ∨ p = 12 ∨ p = 13 ∨ p = 14 ∨ p = 15 ∨ p = 16 ∨ p = 17 ∨ p = 18 ∨ p = 19 := by
  by_cases hp : 0 ≤ p ∧ p ≤ 19
  · omega
  · unfold PyKqk3.shape at h
    repeat
      first
      | (rw [if_neg (by omega)] at h)
    cases h
theorem call_shape {shape : Int → Option (Nat × Nat)} {p : Int} {r t : List Int} {c : List (List Int)} (h : PyFlat.call shape (p :: r) = some (c, t)) : ∃ n k, shape p = some (n, k) := by
  unfold PyFlat.call at h
  cases e : shape p with
  | none =>
    simp only [e] at h
    cases h
  | some nk => exact ⟨nk.1, nk.2, rfl⟩
def One (c : List (List Int)) (l t : List Int) : Prop := ∃ q, Small q ∧ l = enc q ++ t ∧ ∀ s, Kqk3Neutral.step s (PyKqk3.whole c) = ((Kqk3.step s q).1, Kqk3Neutral.fields (Kqk3.step s q).2)
theorem small_by {q : Request} (h : ∀ x ∈ enc q, x ≤ 4294967295) (h2 : ∀ k ps, q ≠ .dualBound k ps ∧ q ≠ .provesOptimality k ps) : Small q := ⟨h, fun k ps e => e.elim (fun z => absurd z (h2 k ps).1) fun z => absurd z (h2 k ps).2⟩
theorem one0 {p : Int} {q : Request} {r t : List Int} {c : List (List Int)} (hs : PyKqk3.shape p = some (0, 0)) (h : PyFlat.call PyKqk3.shape (p :: r) = some (c, t)) (he : enc q = [p]) (hp : p ≤ 4294967295) (h2 : ∀ k ps, q ≠ .dualBound k ps ∧ q ≠ .provesOptimality k ps)
    (hst : ∀ s, Kqk3Neutral.step s (PyKqk3.whole [[p]]) = ((Kqk3.step s q).1, Kqk3Neutral.fields (Kqk3.step s q).2)) : One c (p :: r) t := by
  obtain ⟨_, rfl, rfl⟩ := call0 hs h
  refine ⟨q, small_by (fun x hx => ?_) h2, by rw [he]; rfl, hst⟩
  rw [he, List.mem_singleton] at hx
  rw [hx]
  exact hp
theorem one1 {p : Int} {mk : Nat → Request} {r t : List Int} {c : List (List Int)} (hs : PyKqk3.shape p = some (1, 0)) (h : PyFlat.call PyKqk3.shape (p :: r) = some (c, t)) (he : ∀ a, enc (mk a) = [p, (a : Int)]) (hp : p ≤ 4294967295) (h2 : ∀ a k ps, mk a ≠ .dualBound k ps ∧ mk a ≠ .provesOptimality k ps)
    (ok : Kqk3Neutral.asked1 (PyKqk3.whole c) = true) (hok : ∀ x, Kqk3Neutral.asked1 (PyKqk3.whole [[p, x]]) = Kqk3Neutral.nat32 x)
    (hst : ∀ s (x : Int), Kqk3Neutral.step s (PyKqk3.whole [[p, x]]) = ((Kqk3.step s (mk x.toNat)).1, Kqk3Neutral.fields (Kqk3.step s (mk x.toNat)).2)) : One c (p :: r) t := by
  obtain ⟨hl, rfl, rfl⟩ := call0 hs h
  match r, hl with
  | x :: r, _ =>
    have ok' : Kqk3Neutral.asked1 (PyKqk3.whole [[p, x]]) = true := ok
    rw [hok, nat32_iff] at ok'
    refine ⟨mk x.toNat, small_by (fun y hy => ?_) (h2 _), by rw [he, toNat_back ok'.1]; rfl, fun s => hst s x⟩
    rw [he, toNat_back ok'.1] at hy
    simp only [List.mem_cons, List.not_mem_nil, or_false] at hy
    omega
theorem one2 {p : Int} {mk : Nat → Nat → Request} {r t : List Int} {c : List (List Int)} (hs : PyKqk3.shape p = some (2, 0)) (h : PyFlat.call PyKqk3.shape (p :: r) = some (c, t)) (he : ∀ a b, enc (mk a b) = [p, (a : Int), (b : Int)]) (hp : p ≤ 4294967295) (h2 : ∀ a b k ps, mk a b ≠ .dualBound k ps ∧ mk a b ≠ .provesOptimality k ps)
    (ok : Kqk3Neutral.asked1 (PyKqk3.whole c) = true) (hok : ∀ x y, Kqk3Neutral.asked1 (PyKqk3.whole [[p, x, y]]) = (Kqk3Neutral.nat32 x && Kqk3Neutral.nat32 y))
    (hst : ∀ s (x y : Int), Kqk3Neutral.step s (PyKqk3.whole [[p, x, y]]) = ((Kqk3.step s (mk x.toNat y.toNat)).1, Kqk3Neutral.fields (Kqk3.step s (mk x.toNat y.toNat)).2)) : One c (p :: r) t := by
  obtain ⟨hl, rfl, rfl⟩ := call0 hs h
  match r, hl with
  | x :: y :: r, _ =>
    have ok' : Kqk3Neutral.asked1 (PyKqk3.whole [[p, x, y]]) = true := ok
    rw [hok, Bool.and_eq_true, nat32_iff, nat32_iff] at ok'
    refine ⟨mk x.toNat y.toNat, small_by (fun z hz => ?_) (h2 _ _), by rw [he, toNat_back ok'.1.1, toNat_back ok'.2.1]; rfl, fun s => hst s x y⟩
    rw [he, toNat_back ok'.1.1, toNat_back ok'.2.1] at hz
    simp only [List.mem_cons, List.not_mem_nil, or_false] at hz
    omega
theorem one3 {p : Int} {mk : Nat → Nat → Nat → Request} {r t : List Int} {c : List (List Int)} (hs : PyKqk3.shape p = some (3, 0)) (h : PyFlat.call PyKqk3.shape (p :: r) = some (c, t)) (he : ∀ a b d, enc (mk a b d) = [p, (a : Int), (b : Int), (d : Int)]) (hp : p ≤ 4294967295) (h2 : ∀ a b d k ps, mk a b d ≠ .dualBound k ps ∧ mk a b d ≠ .provesOptimality k ps)
    (ok : Kqk3Neutral.asked1 (PyKqk3.whole c) = true) (hok : ∀ x y z, Kqk3Neutral.asked1 (PyKqk3.whole [[p, x, y, z]]) = (Kqk3Neutral.nat32 x && Kqk3Neutral.nat32 y && Kqk3Neutral.nat32 z))
    (hst : ∀ s (x y z : Int), Kqk3Neutral.step s (PyKqk3.whole [[p, x, y, z]]) = ((Kqk3.step s (mk x.toNat y.toNat z.toNat)).1, Kqk3Neutral.fields (Kqk3.step s (mk x.toNat y.toNat z.toNat)).2)) : One c (p :: r) t := by
  obtain ⟨hl, rfl, rfl⟩ := call0 hs h
  match r, hl with
  | x :: y :: z :: r, _ =>
    have ok' : Kqk3Neutral.asked1 (PyKqk3.whole [[p, x, y, z]]) = true := ok
    rw [hok, Bool.and_eq_true, Bool.and_eq_true, nat32_iff, nat32_iff, nat32_iff] at ok'
    refine ⟨mk x.toNat y.toNat z.toNat, small_by (fun w hw => ?_) (h2 _ _ _), by rw [he, toNat_back ok'.1.1.1, toNat_back ok'.1.2.1, toNat_back ok'.2.1]; rfl, fun s => hst s x y z⟩
    rw [he, toNat_back ok'.1.1.1, toNat_back ok'.1.2.1, toNat_back ok'.2.1] at hw
    simp only [List.mem_cons, List.not_mem_nil, or_false] at hw
    omega
theorem oneP {p : Int} {mk : Nat → List Nat → Request} {r t : List Int} {c : List (List Int)} (hs : PyKqk3.shape p = some (1, 1)) (h : PyFlat.call PyKqk3.shape (p :: r) = some (c, t)) (he : ∀ a ps, enc (mk a ps) = p :: (a : Int) :: (ps.length : Int) :: nums ps) (hp : p ≤ 4294967295)
    (h2 : ∀ a ps k qs, mk a ps = .dualBound k qs ∨ mk a ps = .provesOptimality k qs → qs = ps)
    (ok : Kqk3Neutral.asked1 (PyKqk3.whole c) = true) (hok : ∀ x ps, Kqk3Neutral.asked1 (PyKqk3.whole [[p, x], ps]) = (Kqk3Neutral.nat32 x && Kqk3Neutral.list32 Kqk3Neutral.nat32 ps))
    (hst : ∀ s (x : Int) (ps : List Int), Kqk3Neutral.step s (PyKqk3.whole [[p, x], ps]) = ((Kqk3.step s (mk x.toNat (ps.map Kqk3Neutral.nat))).1, Kqk3Neutral.fields (Kqk3.step s (mk x.toNat (ps.map Kqk3Neutral.nat))).2)) : One c (p :: r) t := by
  obtain ⟨m, r', hl, hd, hm, hml, rfl, rfl⟩ := call1 hs h
  match r, hl, hd with
  | x :: r, _, hd =>
    have hd' : r = m :: r' := hd
    have ok' : Kqk3Neutral.asked1 (PyKqk3.whole [[p, x], r'.take m.toNat]) = true := ok
    rw [hok, Bool.and_eq_true, nat32_iff] at ok'
    obtain ⟨okx, okl⟩ := ok'
    unfold Kqk3Neutral.list32 at okl
    rw [Bool.and_eq_true, List.all_eq_true, decide_eq_true_iff] at okl
    have hlen : ((r'.take m.toNat).map Kqk3Neutral.nat).length = m.toNat := by rw [List.length_map, List.length_take]; omega
    have hnn : ∀ z ∈ r'.take m.toNat, 0 ≤ z := fun z hz => (nat32_iff.mp (okl.1 z hz)).1
    have e1 : enc (mk x.toNat ((r'.take m.toNat).map Kqk3Neutral.nat)) = p :: x :: m :: r'.take m.toNat := by
      rw [he, toNat_back okx.1, hlen, toNat_back hm, nums_back hnn]
    refine ⟨mk x.toNat ((r'.take m.toNat).map Kqk3Neutral.nat), ⟨fun y hy => ?_, fun k qs e => ?_⟩, ?_, fun s => hst s x _⟩
    · rw [e1] at hy
      simp only [List.mem_cons] at hy
      rcases hy with rfl | rfl | rfl | hy
      · exact hp
      · omega
      · have := okl.2
        rw [List.length_take] at this
        omega
      · have := (nat32_iff.mp (okl.1 y hy)).2
        omega
    · rw [h2 _ _ _ _ e, List.length_map]
      exact okl.2
    · rw [e1, hd']
      show p :: x :: m :: r' = p :: x :: m :: (r'.take m.toNat ++ r'.drop m.toNat)
      rw [List.take_append_drop]
theorem call_one {p : Int} {r t : List Int} {c : List (List Int)} (h : PyFlat.call PyKqk3.shape (p :: r) = some (c, t)) (ok : Kqk3Neutral.asked1 (PyKqk3.whole c) = true) : One c (p :: r) t := by
  obtain ⟨n, k, hs⟩ := call_shape h
  have no : ∀ {q : Request} {k ps}, (∀ k ps, q ≠ .dualBound k ps ∧ q ≠ .provesOptimality k ps) → q ≠ .dualBound k ps ∧ q ≠ .provesOptimality k ps := fun h => h _ _
  rcases shape_cases p hs with rfl | rfl | rfl | rfl | rfl | rfl | rfl | rfl | rfl | rfl | rfl | rfl | rfl | rfl | rfl | rfl | rfl | rfl | rfl | rfl
  · exact one1 (mk := .create) rfl h (fun _ => rfl) (by decide) (fun _ _ _ => ⟨nofun, nofun⟩) ok (fun _ => rfl) fun _ _ => rfl
  · exact one3 (mk := .addUser) rfl h (fun _ _ _ => rfl) (by decide) (fun _ _ _ _ _ => ⟨nofun, nofun⟩) ok (fun _ _ _ => rfl) fun _ _ _ _ => rfl
  · exact one1 (mk := .removeUser) rfl h (fun _ => rfl) (by decide) (fun _ _ _ => ⟨nofun, nofun⟩) ok (fun _ => rfl) fun _ _ => rfl
  · exact one0 (q := .listUsers) rfl h rfl (by decide) (fun _ _ => ⟨nofun, nofun⟩) fun _ => rfl
  · exact one2 (mk := .setValue) rfl h (fun _ _ => rfl) (by decide) (fun _ _ _ _ => ⟨nofun, nofun⟩) ok (fun _ _ => rfl) fun _ _ _ => rfl
  · exact one1 (mk := .load) rfl h (fun _ => rfl) (by decide) (fun _ _ _ => ⟨nofun, nofun⟩) ok (fun _ => rfl) fun _ _ => rfl
  · exact one0 (q := .peakLoad) rfl h rfl (by decide) (fun _ _ => ⟨nofun, nofun⟩) fun _ => rfl
  · exact one0 (q := .peakGrade) rfl h rfl (by decide) (fun _ _ => ⟨nofun, nofun⟩) fun _ => rfl
  · exact one0 (q := .minCascades) rfl h rfl (by decide) (fun _ _ => ⟨nofun, nofun⟩) fun _ => rfl
  · exact one1 (mk := .assignCascades) rfl h (fun _ => rfl) (by decide) (fun _ _ _ => ⟨nofun, nofun⟩) ok (fun _ => rfl) fun _ _ => rfl
  · exact one2 (mk := .isServable) rfl h (fun _ _ => rfl) (by decide) (fun _ _ _ _ => ⟨nofun, nofun⟩) ok (fun _ _ => rfl) fun _ _ _ => rfl
  · exact one1 (mk := .bestSet) rfl h (fun _ => rfl) (by decide) (fun _ _ _ => ⟨nofun, nofun⟩) ok (fun _ => rfl) fun _ _ => rfl
  · exact one1 (mk := .valueOf) rfl h (fun _ => rfl) (by decide) (fun _ _ _ => ⟨nofun, nofun⟩) ok (fun _ => rfl) fun _ _ => rfl
  · exact one1 (mk := .marginalValue) rfl h (fun _ => rfl) (by decide) (fun _ _ _ => ⟨nofun, nofun⟩) ok (fun _ => rfl) fun _ _ => rfl
  · exact one2 (mk := .canFollow) rfl h (fun _ _ => rfl) (by decide) (fun _ _ _ _ => ⟨nofun, nofun⟩) ok (fun _ _ => rfl) fun _ _ _ => rfl
  · exact one0 (q := .peakUsers) rfl h rfl (by decide) (fun _ _ => ⟨nofun, nofun⟩) fun _ => rfl
  · exact oneP (mk := .dualBound) rfl h (fun _ _ => rfl) (by decide) (fun _ _ _ _ e => e.elim (fun z => by cases z; rfl) fun z => by cases z) ok (fun _ _ => rfl) fun _ _ _ => rfl
  · exact oneP (mk := .provesOptimality) rfl h (fun _ _ => rfl) (by decide) (fun _ _ _ _ e => e.elim (fun z => by cases z) fun z => by cases z; rfl) ok (fun _ _ => rfl) fun _ _ _ => rfl
  · exact one2 (mk := .lossWithout) rfl h (fun _ _ => rfl) (by decide) (fun _ _ _ _ => ⟨nofun, nofun⟩) ok (fun _ _ => rfl) fun _ _ _ => rfl
  · exact one0 (q := .summary) rfl h rfl (by decide) (fun _ _ => ⟨nofun, nofun⟩) fun _ => rfl
theorem calls_reqs : ∀ (f : Nat) (l : List Int) (raw : List (List (List Int))), PyFlat.calls PyKqk3.shape f l = some raw → (raw.map PyKqk3.whole).all Kqk3Neutral.asked1 = true →
    ∃ qs : List Request, l = qs.flatMap enc ∧ (∀ q ∈ qs, Small q) ∧ ∀ s, PyFlat.told (PyFlat.played Kqk3Neutral.step s (raw.map PyKqk3.whole)) = toldQ s qs
  | f, [], raw, h, _ => by
    have e : PyFlat.calls PyKqk3.shape f [] = some [] := by cases f <;> rfl
    rw [e] at h
    cases h
    exact ⟨[], rfl, fun q hq => absurd hq (by simp), fun s => rfl⟩
  | 0, p :: r, raw, h, _ => by
    have e : PyFlat.calls PyKqk3.shape 0 (p :: r) = none := rfl
    rw [e] at h
    cases h
  | f + 1, p :: r, raw, h, hok => by
    unfold PyFlat.calls at h
    cases hc : PyFlat.call PyKqk3.shape (p :: r) with
    | none =>
      rw [hc] at h
      cases h
    | some ct =>
      obtain ⟨c, t⟩ := ct
      rw [hc] at h
      simp only at h
      cases hcs : PyFlat.calls PyKqk3.shape f t with
      | none =>
        rw [hcs] at h
        cases h
      | some cs =>
        rw [hcs] at h
        cases h
        rw [List.map_cons, List.all_cons, Bool.and_eq_true] at hok
        obtain ⟨q, hq, e1, e2⟩ := call_one hc hok.1
        obtain ⟨qs, e3, h3, e4⟩ := calls_reqs f t cs hcs hok.2
        refine ⟨q :: qs, by rw [e1, e3]; rfl, fun x hx => ?_, fun s => ?_⟩
        · rcases List.mem_cons.mp hx with rfl | hx
          · exact hq
          · exact h3 x hx
        · rw [List.map_cons]
          show PyFlat.told ((Kqk3Neutral.step s (PyKqk3.whole c)).2 :: PyFlat.played Kqk3Neutral.step (Kqk3Neutral.step s (PyKqk3.whole c)).1 (cs.map PyKqk3.whole)) = _
          rw [e2]
          show _ ++ PyFlat.told (PyFlat.played Kqk3Neutral.step (Kqk3.step s q).1 (cs.map PyKqk3.whole)) = _
          rw [e4]
          rfl
/-- what is asked is a list of requests, and what is due is what they tell -/
theorem asked_reqs {l : List Int} (h : PyKqk3.answers_asked l = true) : ∃ qs : List Request, l = qs.flatMap enc ∧ (∀ q ∈ qs, Small q) ∧ PyKqk3.answers l = toldQ none qs ∧ (toldQ none qs).length ≤ 10000000 := by
  unfold PyKqk3.answers_asked at h
  cases hc : PyFlat.calls PyKqk3.shape l.length l with
  | none =>
    rw [hc] at h
    cases h
  | some raw =>
    rw [hc] at h
    simp only [Bool.and_eq_true] at h
    obtain ⟨⟨_, h4⟩, h5⟩ := h
    unfold Kqk3Neutral.asked at h4
    simp only [Bool.and_eq_true] at h4
    obtain ⟨qs, e1, h1, e2⟩ := calls_reqs _ _ _ hc h4.1.2.1
    have ea : PyKqk3.answers l = toldQ none qs := by
      unfold PyKqk3.answers PyKqk3.calls
      rw [hc]
      exact e2 none
    refine ⟨qs, e1, h1, ea, ?_⟩
    unfold PyFlat.short at h5
    rw [decide_eq_true_iff, ea] at h5
    exact h5
end HC

set_option linter.all false
/-! What every network keeps to; a request's parts. -/
namespace HC
open Kqk3
structure Valid (n : Network) : Prop where
  g1 : 1 ≤ n.gradeCount
  g12 : n.gradeCount ≤ 12
  u8 : n.users.length ≤ 8
  us : ∀ u ∈ n.users, u.returned < u.supply ∧ u.supply ≤ n.gradeCount ∧ u.value ≤ 100
def ValidS (s : Option Network) : Prop := ∀ n, s = some n → Valid n
theorem erase_mem {α : Type} {l : List α} {i : Nat} {x : α} (h : x ∈ l.eraseIdx i) : x ∈ l := List.mem_of_mem_eraseIdx h
theorem usr_in {us : List User} {i : Nat} (h : i < us.length) : usr us i ∈ us := by
  unfold usr
  rw [List.getD_eq_getElem?_getD, List.getElem?_eq_getElem h]
  exact List.getElem_mem h
theorem Valid.usr {n : Network} (v : Valid n) {i : Nat} (h : i < n.users.length) : (usr n.users i).returned < (usr n.users i).supply ∧ (usr n.users i).supply ≤ n.gradeCount ∧ (usr n.users i).value ≤ 100 := v.us _ (usr_in h)
theorem Valid.less {n : Network} (v : Valid n) (i : Nat) : Valid (less n i) :=
  ⟨v.g1, v.g12, Nat.le_trans (List.length_eraseIdx_le ..) v.u8, fun u h => v.us u (erase_mem h)⟩
theorem valid_create {g : Nat} (h : ¬ (g < 1 ∨ maxGrades < g)) : Valid ⟨g, []⟩ := by
  have e : maxGrades = 12 := rfl
  rw [e] at h
  exact ⟨by show 1 ≤ g; omega, by show g ≤ 12; omega, Nat.zero_le _, fun u h => absurd h (by simp)⟩
theorem step_valid {s : Option Network} (h : ValidS s) (q : Request) : ValidS (step s q).1 := by
  cases s with
  | none =>
    cases q with
    | create g =>
      show ValidS (if g < 1 ∨ maxGrades < g then ((none : Option Network), Result.value (-22)) else (some ⟨g, []⟩, .value 0)).1
      split
      · exact h
      · intro n e
        cases e
        exact valid_create (by assumption)
    | _ => exact h
  | some n =>
    have v := h n rfl
    cases q with
    | create g =>
      show ValidS (if g < 1 ∨ maxGrades < g then (some n, Result.value (-22)) else (some ⟨g, []⟩, .value 0)).1
      split
      · exact h
      · intro n e
        cases e
        exact valid_create (by assumption)
    | addUser sg rg x =>
      show ValidS (if sg ≤ rg ∨ n.gradeCount < sg ∨ 100 < x then (some n, Result.value (-22)) else if maxUsers ≤ n.users.length then (some n, Result.value (-28)) else (some { n with users := n.users ++ [⟨sg, rg, x⟩] }, Result.value n.users.length)).1
      split
      · exact h
      split
      · exact h
      · rename_i h1 h2
        have e : maxUsers = 8 := rfl
        rw [e] at h2
        intro m z
        cases z
        refine ⟨v.g1, v.g12, ?_, fun u hu => ?_⟩
        · show (n.users ++ [_]).length ≤ 8
          rw [List.length_append]
          show n.users.length + 1 ≤ 8
          omega
        · rcases List.mem_append.mp hu with y | y
          · exact v.us u y
          · rw [List.mem_singleton] at y
            subst y
            exact ⟨by show rg < sg; omega, by show sg ≤ n.gradeCount; omega, by show x ≤ 100; omega⟩
    | removeUser i =>
      show ValidS (if n.users.length ≤ i then (some n, Result.value (-2)) else (some { n with users := n.users.eraseIdx i }, Result.value (n.users.length - 1 : Nat))).1
      split
      · exact h
      · intro m z
        cases z
        exact v.less i
    | setValue i x =>
      show ValidS (if n.users.length ≤ i then (some n, Result.value (-2)) else if 100 < x then (some n, Result.value (-22)) else (some { n with users := n.users.set i { user n i with value := x } }, Result.value (user n i).value)).1
      split
      · exact h
      split
      · exact h
      · rename_i h1 h2
        intro m z
        cases z
        refine ⟨v.g1, v.g12, ?_, fun u hu => ?_⟩
        · show (n.users.set _ _).length ≤ 8
          rw [List.length_set]
          exact v.u8
        · rcases List.mem_or_eq_of_mem_set hu with y | y
          · exact v.us u y
          · subst y
            have z := v.usr (i := i) (by omega)
            exact ⟨z.1, z.2.1, by show x ≤ 100; omega⟩
    | _ => exact h
/-! ### a request's parts -/
def opOf : Request → Nat
  | .create _ => 0
  | .addUser _ _ _ => 1
  | .removeUser _ => 2
  | .listUsers => 3
  | .setValue _ _ => 4
  | .load _ => 5
  | .peakLoad => 6
  | .peakGrade => 7
  | .minCascades => 8
  | .assignCascades _ => 9
  | .isServable _ _ => 10
  | .bestSet _ => 11
  | .valueOf _ => 12
  | .marginalValue _ => 13
  | .canFollow _ _ => 14
  | .peakUsers => 15
  | .dualBound _ _ => 16
  | .provesOptimality _ _ => 17
  | .lossWithout _ _ => 18
  | .summary => 19
def argsOf : Request → List Nat
  | .create g => [g]
  | .addUser s r v => [s, r, v]
  | .removeUser i => [i]
  | .setValue i v => [i, v]
  | .load g => [g]
  | .assignCascades s => [s]
  | .isServable s k => [s, k]
  | .bestSet k => [k]
  | .valueOf s => [s]
  | .marginalValue k => [k]
  | .canFollow i j => [i, j]
  | .dualBound k _ => [k]
  | .provesOptimality k _ => [k]
  | .lossWithout i k => [i, k]
  | _ => []
def pricesOf : Request → Option (List Nat)
  | .dualBound _ p => some p
  | .provesOptimality _ p => some p
  | _ => none
def tailOf : Option (List Nat) → List Int
  | none => []
  | some p => (p.length : Int) :: nums p
theorem enc_parts (q : Request) : enc q = (opOf q : Int) :: (nums (argsOf q) ++ tailOf (pricesOf q)) := by
  cases q <;> rfl
theorem op_le (q : Request) : opOf q ≤ 19 := by
  cases q <;> simp only [opOf] <;> decide
def countOf (op : Nat) : Nat := [1, 3, 1, 0, 2, 1, 0, 0, 0, 1, 2, 1, 1, 1, 2, 0, 1, 1, 2, 0].getD op 0
theorem args_len (q : Request) : (argsOf q).length = countOf (opOf q) := by
  cases q <;> rfl
theorem prices_iff (q : Request) : (pricesOf q).isSome = decide (opOf q = 16 ∨ opOf q = 17) := by
  cases q <;> rfl
end HC

set_option linter.all false
/-! A request's place in what is handed in. -/
namespace HC
open Kqk3
def flat (qs : List Request) : List Int := qs.flatMap enc
theorem flat_app (as bs : List Request) : flat (as ++ bs) = flat as ++ flat bs := List.flatMap_append
theorem flat_one (q : Request) : flat [q] = enc q := by
  unfold flat
  rw [List.flatMap_cons, List.flatMap_nil, List.append_nil]
theorem flat_at (as bs : List Request) (q : Request) : flat (as ++ q :: bs) = flat as ++ (enc q ++ flat bs) := by
  rw [flat_app]
  congr 1
theorem nums_length (l : List Nat) : (nums l).length = l.length := List.length_map ..
theorem enc_length (q : Request) : (enc q).length = 1 + countOf (opOf q) + (tailOf (pricesOf q)).length := by
  rw [enc_parts, List.length_cons, List.length_append, nums_length, args_len]
  omega
/-- i numbers behind the first k of it -/
def cut (l : List Int) (k m : Nat) : List Int := (l.drop k).take (m - k)
theorem cut_mid {A B C : List Int} {k m : Nat} (hk : k = A.length) (hm : m = A.length + B.length) : cut (A ++ (B ++ C)) k m = B := by
  unfold cut
  subst hk
  have e : m - A.length = B.length := by omega
  rw [e, List.drop_left, List.take_left]
theorem at_mid {A C : List Int} {x : Int} {k : Nat} (hk : k = A.length) : (A ++ x :: C)[k]? = some x := by
  subst hk
  simp
section
variable (as bs : List Request) (q : Request)
abbrev pl : Nat := (flat as).length
theorem op_at : (flat (as ++ q :: bs))[(flat as).length]? = some (opOf q : Int) := by
  rw [flat_at, enc_parts]
  exact at_mid rfl
theorem args_at : cut (flat (as ++ q :: bs)) ((flat as).length + 1) ((flat as).length + 1 + countOf (opOf q)) = nums (argsOf q) := by
  have e : flat (as ++ q :: bs) = (flat as ++ [(opOf q : Int)]) ++ (nums (argsOf q) ++ (tailOf (pricesOf q) ++ flat bs)) := by
    rw [flat_at, enc_parts]
    simp
  rw [e]
  exact cut_mid (by simp) (by simp [nums_length, args_len])
theorem many_at {p : List Nat} (h : pricesOf q = some p) : (flat (as ++ q :: bs))[(flat as).length + 1 + countOf (opOf q)]? = some (p.length : Int) := by
  have e : flat (as ++ q :: bs) = (flat as ++ (opOf q : Int) :: nums (argsOf q)) ++ (p.length : Int) :: (nums p ++ flat bs) := by
    rw [flat_at, enc_parts, h]
    simp [tailOf]
  rw [e]
  exact at_mid (by simp [nums_length, args_len]; omega)
theorem prices_at {p : List Nat} (h : pricesOf q = some p) : cut (flat (as ++ q :: bs)) ((flat as).length + 1 + countOf (opOf q) + 1) ((flat as).length + 1 + countOf (opOf q) + 1 + p.length) = nums p := by
  have e : flat (as ++ q :: bs) = (flat as ++ (opOf q : Int) :: (nums (argsOf q) ++ [(p.length : Int)])) ++ (nums p ++ flat bs) := by
    rw [flat_at, enc_parts, h]
    simp [tailOf]
  rw [e]
  exact cut_mid (by simp [nums_length, args_len]; omega) (by simp [nums_length, args_len]; omega)
theorem next_none (h : pricesOf q = none) : (flat (as ++ [q])).length = (flat as).length + 1 + countOf (opOf q) := by
  rw [flat_app, flat_one, List.length_append, enc_length, h]
  show _ + (_ + 0) = _
  omega
theorem next_some {p : List Nat} (h : pricesOf q = some p) : (flat (as ++ [q])).length = (flat as).length + 1 + countOf (opOf q) + 1 + p.length := by
  rw [flat_app, flat_one, List.length_append, enc_length, h]
  show _ + (_ + ((nums p).length + 1)) = _
  rw [nums_length]
  omega
theorem within : (flat (as ++ [q])).length ≤ (flat (as ++ q :: bs)).length := by
  rw [flat_app, flat_one, flat_at]
  simp only [List.length_append]
  omega
theorem pos_len : 0 < (enc q).length := by
  rw [enc_length]
  omega
end
/-- all the numbers behind a call's own, the prices and their count among them -/
def givenOf (q : Request) : List Nat := match pricesOf q with
  | none => argsOf q
  | some p => argsOf q ++ p.length :: p
theorem enc_given (q : Request) : enc q = (opOf q : Int) :: nums (givenOf q) := by
  rw [enc_parts]
  unfold givenOf
  cases pricesOf q with
  | none => exact congrArg _ (List.append_nil _)
  | some p =>
    unfold nums
    rw [List.map_append]
    rfl
theorem given_at (as bs : List Request) (q : Request) : cut (flat (as ++ q :: bs)) ((flat as).length + 1) (flat (as ++ [q])).length = nums (givenOf q) := by
  have e : flat (as ++ q :: bs) = (flat as ++ [(opOf q : Int)]) ++ (nums (givenOf q) ++ flat bs) := by
    rw [flat_at, enc_given]
    simp
  have e2 : (flat (as ++ [q])).length = (flat as ++ [(opOf q : Int)]).length + (nums (givenOf q)).length := by
    rw [flat_app, flat_one, enc_given]
    simp
    omega
  rw [e, e2]
  exact cut_mid (by simp) rfl
/-- what has been told of the first requests, and the state behind them -/
def after (s : Option Network) (qs : List Request) : Option Network := qs.foldl (fun s q => (step s q).1) s
theorem toldQ_app (s : Option Network) (as bs : List Request) : toldQ s (as ++ bs) = toldQ s as ++ toldQ (after s as) bs := by
  induction as generalizing s with
  | nil => rfl
  | cons q as ih =>
    show (_ :: _) ++ toldQ (step s q).1 (as ++ bs) = ((_ :: _) ++ toldQ (step s q).1 as) ++ toldQ (after (step s q).1 as) bs
    rw [ih, List.append_assoc]
theorem after_snoc (s : Option Network) (as : List Request) (q : Request) : after s (as ++ [q]) = (step (after s as) q).1 := by
  unfold after
  rw [List.foldl_append]
  rfl
theorem after_valid {s : Option Network} (h : ValidS s) (qs : List Request) : ValidS (after s qs) := by
  induction qs generalizing s with
  | nil => exact h
  | cons q qs ih => exact ih (step_valid h q)
theorem toldQ_snoc (s : Option Network) (as : List Request) (q : Request) : toldQ s (as ++ [q]) = toldQ s as ++ (((Kqk3Neutral.fields (step (after s as) q).2).length : Int) :: Kqk3Neutral.fields (step (after s as) q).2) := by
  rw [toldQ_app]
  congr 1
  show (_ :: _) ++ [] = _
  rw [List.append_nil]
theorem toldQ_short {s : Option Network} {as bs : List Request} {m : Nat} (h : (toldQ s (as ++ bs)).length ≤ m) : (toldQ s as).length ≤ m := by
  rw [toldQ_app, List.length_append] at h
  omega
end HC

set_option Elab.async false
set_option linter.all false
set_option maxRecDepth 100000
namespace SL
open PySem PySem.Spec PyProof.Rows L2 LamX NdefX
/-- the lambda as a function of the layer; it has no suite -/
abbrev asNF (X : Cx) (ar : Arguments) (sc : Scope) (co : Addr) : NF := { name := "<lambda>", qual := X.env.qual ++ "<lambda>", params := ar, body := [], scope := sc, cl := cloFrom X.env.cells sc.names [], c := co }
abbrev inside (X : Cx) (A : Around) (s : Shared) (H : Hp) (N : List Str) (ar : Arguments) (sc : Scope) (g co : Addr) : Cx := ncx CX0 X.prog X.w X.K X.mg X.base N (asNF X ar sc co) g A X.stack s H E0
abbrev made (X : Cx) (ar : Arguments) (b : Expr) (sc : Scope) (co : Addr) (m ct : Value) : Obj := PySem.W.kla_obj "<lambda>" (X.env.qual ++ "<lambda>") ar b sc (cloFrom X.env.cells sc.names []) m co ct
structure Text (X : Cx) (ar : Arguments) (sc : Scope) (x : Str) (fr : List Str) (js : List Nat) : Prop where
  names : NScope (x :: fr) [x] fr sc
  around : ndefB X.env.scope sc fr = true
  slots : js.map (fun j => X.N[j]?) = fr.map some
  one : ∀ (q : Str) (b : Expr) (cl : List (Str × Addr)) (m cv ct u : Value), bindArgs (PySem.W.kla_fn "<lambda>" q ar b sc cl m cv ct) ⟨[u], []⟩ = pure [(x, u)]
  plain : defaultsOf ar X.env = ([], [])
section
variable {X : Cx} {pins : List (Addr × Obj)} {σ : L2.St} {H : Hp} {s : Shared} {A : Around} {ar : Arguments} {b : Expr} {sc : Scope} {x : Str} {fr : List Str} {js : List Nat} {g co : Addr} {m ct u : Value} {v : V} {tb : TE} {Q : VK} {k : Nat}
theorem Text.cells (T : Text X ar sc x fr js) (ok : X.Ok) : ∀ y ∈ sc.names, y.2 = .free → ∃ c, X.env.cells.lookup y.1 = some c := by
  intro y m e
  cases ndef_free T.around y m e with
  | inl z => exact ok.has y.1 (Or.inl z)
  | inr z => exact ok.has y.1 (Or.inr z)
theorem enters (T : Text X ar sc x fr js) (I : Inv X pins σ H s) (e0 : Env0 X.prog X.w X.K X.mg X.base A X.stack s H) (hr : Room (k + 1) A) (r : RelV v u) {h2 : Heap} {t : Nat} (ns : h2.Ns s.heap.objs.size fun y => ([(x, u)] : List (Str × Value)).reverse.lookup y)
    (old : ∀ a o, s.heap.get? a = some o → h2.get? a = some o) : Inv (inside X A s H (x :: fr) ar sc g co) [] (startF (x :: fr) [v] (js.map (slotAt σ))) H { s with heap := h2, toks := t } := by
  have cap := Caps.made (fr := fr) (js := js) I.ok (ndef_free T.around) (ndef_fr T.around) T.slots
  exact inv_startN (ps := [x]) (us := [u]) T.names hr.hd e0 rfl (Paired.cons r Paired.nil) (cells_of I cap) ns old
theorem calls (T : Text X ar sc x fr js) (I : Inv X pins σ H s) (e0 : Env0 X.prog X.w X.K X.mg X.base A X.stack s H) (hr : Room (k + 1) A) (r : RelV v u) (at_ : s.heap.get? g = some (made X ar b sc co m ct)) (hco : H co = some (CodeO co (X.env.qual ++ "<lambda>")))
    (body : Room k (A.deeper (envF (asNF X ar sc co) g s.heap.objs.size)) → PE (inside X A s H (x :: fr) ar sc g co) b tb) (wish : tb (startF (x :: fr) [v] (js.map (slotAt σ))) H Q) :
    wpAny (model X.prog X.w) A (call (.ref g) [u]) (EP X pins σ Q) (fun _ _ => False) s := by
  have run : codeAny (model X.prog X.w) A (.call (.ref g) ⟨[u], []⟩) (fun res s' => ∃ w, res = .ok (.ret w) ∧ CE X.stack X.prog X.w H s Q w s') s := by
    refine PySem.W.kla_callFunE hr.depth at_ rfl T.names.co T.names.gen rfl (codeO_at I.hok hco) ?_
    rw [T.one]
    refine wpAny_pure (wpAny_newFunctionEnv T.names.nocell (by simpa using T.names.par x (.head _)) (fun h2 ns sb => ?_) T.names.kind)
    have old : ∀ a o, s.heap.get? a = some o → h2.get? a = some o := fun a o e => sb.extBut a o (Nat.ne_of_lt (show a < s.heap.objs.size from Heap.lt_size e)) (Heap.get?_push_of_some _ e)
    have J := enters (t := s.toks + 1) (g := g) (co := co) T I e0 hr r ns old
    refine And.intro (I.nolimit.fresh _ sb) (PySem.W.kla_codeExpr ?_)
    refine wpAny_mono ((body (hr.deeper _)).run [] _ _ H Q J wish) ?_ ?_
    · rintro w s' ⟨y, H2, J2, ry, q⟩
      exact ⟨w, rfl, y, H2, J2.os, J2.bare, J2.base, J2.hok, ry, q⟩
    · intro e s' z
      exact wpAny_mono z (fun _ _ z2 => z2.elim) fun _ _ z2 => z2.elim
  refine wpAny_call (codeAny_mono run ?_)
  rintro res s' ⟨w, rfl, ce⟩
  exact I.after ce
end
end SL

set_option Elab.async false
set_option linter.all false
set_option maxRecDepth 100000
set_option maxHeartbeats 2000000
namespace SL
open PySem PySem.Spec PyProof.Rows L2 LamX NdefX
open PySem.W (EachIs)
def leTwo (p q : Int → Int) (y z : Int) : Bool := decide (p y < p z ∨ (p y = p z ∧ q y ≤ q z))
def two (p q : Int → Int) (z : Int) : PyData := .tuple [.int (p z), .int (q z)]
theorem two_depth (p q : Int → Int) (z : Int) : (two p q z).depth = 1 := by simp [two, PyData.depth, PyData.depthAll]
theorem two_alike (p q : Int → Int) (zs : List Int) : PySem.W.AllAlike (zs.map (two p q)) := PySem.W.AllAlike.of fun y z => by simp [PySem.W.alike, PySem.W.alikeAll, two]
def IsI (u : Value) (z : Int) : Prop := ∃ t, u = Value.int z t
theorem ints_each {zs : List Int} : ∀ {us : List Value}, Vals (zs.map V.int) us ↔ EachIs IsI us zs := by
  induction zs with
  | nil =>
    intro us
    constructor <;> (intro h; cases h; constructor)
  | cons z zs ih =>
    intro us
    constructor
    · intro h
      cases h with
      | cons h1 h2 => exact EachIs.cons h1 (ih.mp h2)
    · intro h
      cases h with
      | cons h1 h2 => exact Paired.cons h1 (ih.mpr h2)
def IsKey (H : Hp) (p q : Int → Int) (u : Value) (z : Int) : Prop := ∃ t, u = Value.ref t ∧ H t = some (.tup [.int (p z), .int (q z)])
theorem IsKey.reads {P : Program} {w : World} {H : Hp} {h : Heap} {p q : Int → Int} {u : Value} {z : Int} (ok : HOk P w H h) (k : IsKey H p q u z) : ∃ as, Reads h u (two p q z) as := by
  obtain ⟨t, rfl, ht⟩ := k
  obtain ⟨-, its, vals, o, at_, cl, n, dat⟩ := ok t _ ht
  rcases vals with _ | ⟨⟨t1, rfl⟩, vals⟩
  rcases vals with _ | ⟨⟨t2, rfl⟩, vals⟩
  cases vals
  exact ⟨[] ++ ([] ++ []), Reads.tuple at_ cl dat (ReadsAll.cons (Reads.int _ t1) (ReadsAll.cons (Reads.int _ t2) ReadsAll.nil))⟩
theorem keys_read {P : Program} {w : World} {H : Hp} {h : Heap} {p q : Int → Int} (ok : HOk P w H h) {us : List Value} {zs : List Int} (k : EachIs (IsKey H p q) us zs) : EachIs (fun u d => ∃ as, Reads h u d as) us (zs.map (two p q)) := by
  induction k with
  | nil => exact EachIs.nil
  | cons k1 _ ih => exact EachIs.cons (k1.reads ok) ih
section
variable {X : Cx} {H : Hp} {s : Shared} {pins : List (Addr × Obj)} {σ : L2.St}
structure Nobody (X : Cx) (pins : List (Addr × Obj)) (b : Addr) : Prop where
  frame : b ≠ X.env.locals
  outer : b ∉ X.fs
  late : X.s_0.heap.objs.size ≤ b
  cell : ∀ y c, X.env.cells.lookup y = some c → c ≠ b
  pin : ∀ d ∈ X.pn ++ pins, d.1 ≠ b
theorem nobody (I : Inv X pins σ H s) {b : Addr} (hb : s.heap.objs.size ≤ b) : Nobody X pins b where
  frame := fun z => Nat.lt_irrefl b (Nat.lt_of_lt_of_le (z ▸ I.lt) hb)
  outer := I.nofs hb
  late := Nat.le_trans I.sz hb
  cell := fun y c e z => by
    obtain ⟨v, o, at_, -⟩ := I.cell y c e
    exact Nat.lt_irrefl b (Nat.lt_of_lt_of_le (z ▸ Heap.lt_size at_) hb)
  pin := fun d m z => Nat.lt_irrefl b (Nat.lt_of_lt_of_le (z ▸ Heap.lt_size (I.pin d m).1) hb)
theorem own_place (I : Inv X pins σ H s) {g : Addr} {o : Obj} (at_ : s.heap.get? g = some o) (nf : g ∉ frs X.stack) (nd : ∀ es n, o.data ≠ .dict es n) : g ≠ X.env.locals ∧ g ∉ X.fs := by
  refine ⟨fun z => ?_, fun m => nf ?_⟩
  · obtain ⟨_, ⟨o', es, n, e, d, -⟩, -⟩ := I.loc
    rw [z, e] at at_
    exact nd es n (by rw [← Option.some.inj at_]; exact d)
  · cases I.ok.stk with
    | inl e => rwa [e]
    | inr e =>
      rw [e.1]
      simp only [frs, List.filterMap_cons, e.2]
      exact List.mem_cons.mpr (Or.inr m)
variable {Q : VK} {g a kS e1 : Addr} {go : Obj} {zs : List Int} {p q : Int → Int} {its : List Value}
def Gives (X : Cx) (σ : L2.St) (H : Hp) (g : Addr) (go : Obj) (zs : List Int) (p q : Int → Int) : Prop :=
  ∀ (z : Int) (u : Value) (s' : Shared) (H' : Hp) (pins' : List (Addr × Obj)), z ∈ zs → IsI u z → Inv X pins' σ H' s' → Same H H' → s'.heap.get? g = some go →
    wpAny (model X.prog X.w) X.A.in1.in1 (call (.ref g) [u]) (EP X pins' σ fun v H2 => ∃ t, v = .ref t ∧ H2 t = some (.tup [.int (p z), .int (q z)]) ∧ Same H' H2) (fun _ _ => False) s'
def Made (X : Cx) (pins : List (Addr × Obj)) (σ : L2.St) (H : Hp) (kS : Addr) (zs : List Int) (p q : Int → Int) (i : Nat) (s' : Shared) : Prop :=
  ∃ (ks : Array Value) (n : Nat) (H' : Hp), Inv X pins σ H' s' ∧ s'.heap.get? kS = some (seqObj "list" ks n) ∧ H' kS = none ∧ Same H H' ∧ EachIs (IsKey H' p q) ks.toList (zs.take i)
theorem rest_run {E' : Value → Shared → Prop} (I : Inv X ((g, go) :: (a, seqObj "list" #[] e1) :: pins) σ H s) (nk : s.heap.get? kS = some (seqObj "list" #[] 0)) (hk : H kS = none) (na : Nobody X pins a) (nb : Nobody X pins kS) (hak : a ≠ kS) (hgk : g ≠ kS)
    (hu : X.A.units + 3 < cLine) (items : EachIs IsI its zs) (short : its.length ≤ sizeLine) (turn : Gives X σ H g go zs p q)
    (goal : ∀ H', Same H H' → H' a = none → Q (.ref a) (upd H' a (.lst ((zs.mergeSort (leTwo p q)).map V.int)))) :
    wpAny (model X.prog X.w) X.A.in1.in1 (ksk_rest a (.ref g) false its.toArray e1 (.ref kS)) (fun r s' => r = .done (.ret .none) ∧ EP X pins σ Q (.ref a) s') E' s := by
  have many : its.length = zs.length := items.length
  unfold ksk_rest
  rw [List.forIn_toArray]
  refine wpAny_bind (wpAny_rule (wpAny_bind (ksk_fold (Made X ((g, go) :: (a, seqObj "list" #[] e1) :: pins) σ H kS zs p q) its 0 s ⟨#[], 0, H, I, nk, hk, Same.refl H, by simpa using EachIs.nil⟩ ?one ?all)))
  case one =>
    intro i u s' hi made
    rw [Nat.zero_add] at made ⊢
    obtain ⟨ks, n, H1, I1, at1, free1, same1, keys1⟩ := made
    have il : i < zs.length := by
      have := (List.getElem?_eq_some_iff.mp hi).choose
      omega
    have iz : zs[i]? = some zs[i] := List.getElem?_eq_getElem il
    have uz : IsI u zs[i] := items.zip (u, zs[i]) (List.mem_of_getElem? (i := i) (List.getElem?_zip_eq_some.mpr ⟨hi, iz⟩))
    have few : ks.size ≤ its.length := by
      have := keys1.length
      simp only [Array.length_toList, List.length_take] at this
      omega
    have I2 : Inv X ((kS, seqObj "list" ks n) :: (g, go) :: (a, seqObj "list" #[] e1) :: pins) σ H1 s' := I1.pins_of fun d m => by
      rcases List.mem_cons.mp m with z | m
      · subst z
        exact ⟨at1, free1, nb.frame, nb.outer, fun v => nofun⟩
      · exact I1.pin d (List.mem_append.mpr (Or.inr m))
    have gAt := (I1.pin (g, go) (List.mem_append.mpr (Or.inr (.head _)))).1
    refine wpAny_bind (wpAny_attempt (wpAny_mono (turn zs[i] u s' H1 _ (List.getElem_mem il) uz I2 same1 gAt) ?_ fun _ _ z => z.elim))
    rintro w s2 ⟨v, H2, I3, rv, t, rfl, tup, same2⟩
    cases rv
    obtain ⟨at3, free3, -⟩ := I3.pin (kS, seqObj "list" ks n) (List.mem_append.mpr (Or.inr (.head _)))
    have but := Heap.SameBut.update s2.heap kS (Obj.mapSeq (·.push (Value.ref t)))
    have room : ks.size + 1 ≤ sizeLine + 1 := by omega
    refine wpAny_bind (listUpdate_at at3 rfl ?_ (by omega) (by rw [Array.size_push]; exact room))
    have I4 : Inv X ((g, go) :: (a, seqObj "list" #[] e1) :: pins) σ H2 s2 := I3.pins_of fun d m => I3.pin d (List.mem_append.mpr (Or.inr (List.mem_cons.mpr (Or.inr m))))
    have I5 := I4.turned (it := kS) (h' := s2.heap.update kS (Obj.mapSeq (·.push (Value.ref t)))) (t' := s2.toks) (fun b o nb' h => (but.2 b nb').trans h) free3 nb.frame (Or.inr nb.late) nb.cell (fun d m => by
      simp only [List.mem_append, List.mem_cons] at m
      rcases m with m | rfl | rfl | m
      · exact nb.pin d (List.mem_append.mpr (Or.inl m))
      · exact hgk
      · exact hak
      · exact nb.pin d (List.mem_append.mpr (Or.inr m)))
    refine wpAny_pure ⟨rfl, ks.push (Value.ref t), _, H2, I5, get?_update_seq at3 (·.push (Value.ref t)), free3, same1.trans same2, ?_⟩
    rw [List.take_add_one, iz, Array.toList_push]
    exact PySem.W.each_snoc ⟨t, rfl, tup⟩ (keys1.mono fun y z ⟨t', y1, y2⟩ => ⟨t', y1, same2 _ _ y2⟩)
  case all =>
    rintro s' ⟨ks, n, H1, I1, at1, free1, same1, keys1⟩
    rw [Nat.zero_add, List.take_of_length_le (Nat.le_of_eq many.symm)] at keys1
    have size : ks.size = its.length := by
      have := keys1.length
      rw [Array.length_toList] at this
      omega
    obtain ⟨atA, freeA, -⟩ := I1.pin (a, seqObj "list" #[] e1) (List.mem_append.mpr (Or.inr (.tail _ (.head _))))
    have data := keys_read I1.hok keys1
    have kinds : PySem.W.Sortable (zs.map (two p q)) := PySem.W.Sortable.tuples fun z => ⟨_, _, rfl⟩
    refine wpAny_bind (listItems_at at1 rfl ?_)
    have deep : ∀ z, z ∈ zs → X.A.in1.in1.units + (two p q z).depth < cLine := fun z _ => by
      rw [two_depth]
      exact hu
    refine PySem.W.keyH_end (h₁ := PySem.W.hideAll s'.heap [kS]) (κ := PySem.W.dataKind s'.heap (zs.map (two p q))) (fun b o _ h => PySem.W.of_hideAll [kS] h) (PySem.W.hideAll_none [kS] (.head _)) at1 atA hak.symm
      (PySem.W.SortsAt.data (s := s') data (two_alike p q zs) kinds (PySem.W.bound_map (A := X.A.in1.in1) deep)) size short ?_
    intro h3 t3 n3 old3 atA3
    have stays : ∀ b o, b ≠ a → b ≠ kS → s'.heap.get? b = some o → h3.get? b = some o := fun b o n1 n2 h => old3 b o n1 (PySem.W.hideAll_get _ h (by simpa using n2))
    have apart : ∀ b o, H1 b = some o → b ≠ a ∧ b ≠ kS := fun b o h => And.intro (ne_of_none h freeA) (ne_of_none h free1)
    have out := PySem.W.keyedOut_each (rev := false) (two p q) ⟨s'.heap, ks.toList, two_alike p q zs, rfl, data⟩ items
    rw [show PySem.W.dataLe false (two p q) = leTwo p q from PySem.W.dataLe_ii p q] at out
    refine And.intro rfl ⟨.ref a, _, ?_, rfl, goal H1 same1 freeA⟩
    have I2 : Inv X pins σ H1 s' := I1.pins_of fun d m => I1.pin d (List.mem_append.mpr (Or.inr (.tail _ (.tail _ m))))
    have listed : ObjOk X.prog X.w (upd H1 a (.lst ((zs.mergeSort (leTwo p q)).map V.int))) h3 a (.lst ((zs.mergeSort (leTwo p q)).map V.int)) := by
      refine And.intro ?_ ⟨_, n3, ints_each.mpr out, atA3⟩
      rw [List.length_map, List.length_mergeSort, ← many]
      exact short
    refine I2.step (ch := [a, kS]) (g' := s'.gens) (d' := s'.drawn) ?_ ?_ ?_ ?_ ?_ ?_ ?_ ?_ ?_ ?_ I2.bare
    · intro b m
      simp only [List.mem_cons, List.not_mem_nil, or_false] at m
      rcases m with rfl | rfl
      · exact ⟨Or.inr na.late, na.frame, na.cell, na.pin⟩
      · exact ⟨Or.inr nb.late, nb.frame, nb.cell, nb.pin⟩
    · intro b o _ _ m h _
      simp only [List.mem_cons, List.not_mem_nil, or_false, not_or] at m
      exact stays b o m.1 m.2 h
    · intro b o _ _ m h _
      simp only [List.mem_cons, List.not_mem_nil, or_false, not_or] at m
      exact ⟨o.slots, stays b o m.1 m.2 h⟩
    · intro b o m _ free
      simp only [List.mem_cons, List.not_mem_nil, or_false, not_or] at m
      rw [upd_ne m.1]
      exact free
    · intro b o m h
      simp only [List.mem_cons, List.not_mem_nil, or_false, not_or] at m
      exact ⟨o, stays b o m.1 m.2 h⟩
    · intro b xs h
      rw [upd_ne (apart b _ h).1]
      exact h
    · intro b o y h
      rw [upd_ne (apart b _ h).1]
      exact h
    · intro b ps h
      exact ⟨#[], by rw [upd_ne (apart b _ h).1, h, Array.append_empty]⟩
    · rintro m ⟨o, es, ep, h, r⟩
      exact ⟨o, es, ep, stays _ o na.frame.symm nb.frame.symm h, r⟩
    · intro b o h
      by_cases hb : b = a
      · subst hb
        rw [upd_same] at h
        rw [← Option.some.inj h]
        exact listed
      · rw [upd_ne hb] at h
        refine (I2.hok b o h).stay ?_ (fun d y => by rw [upd_ne (apart d _ y).1]; exact y) (fun d xs y => by rw [upd_ne (apart d _ y).1]; exact y)
        rintro d y (rfl | own) hd
        · exact stays d y hb (apart d o h).2 hd
        · exact stays d y (apart d _ own).1 (apart d _ own).2 hd
theorem sorted_run {l : Addr} (I : Inv X pins σ H s) (list : SqL X.K H l (zs.map V.int)) (hu : X.A.units + 3 < cLine) (at_ : s.heap.get? g = some go) (free : H g = none) (nf : g ∉ frs X.stack) (nc : ∀ v, go.data ≠ .cell v) (nd : ∀ es n, go.data ≠ .dict es n) (turn : Gives X σ H g go zs p q)
    (goal : ∀ H' b, Same H H' → H' b = none → Q (.ref b) (upd H' b (.lst ((zs.mergeSort (leTwo p q)).map V.int)))) :
    wpAny (model X.prog X.w) X.A (call (.builtin "sorted") [.ref l] [(Str.ofString "key", .ref g)]) (EP X pins σ Q) X.xe s := by
  obtain ⟨its, vals, pl, short⟩ := I.list list
  have items := ints_each.mp vals
  have many : its.length = zs.length := items.length
  rw [List.length_map, ← many] at short
  obtain ⟨gL, gF⟩ := own_place I at_ nf nd
  have gLt := Heap.lt_size at_
  refine PySem.W.sorted_of_sort pl.isList short (ksk_s1 (.ref l) _) (fun y => ksk_l1 (.ref y) _) fun E' => ?_
  rw [ksk_t1]
  have laid := PySem.W.copyHeap_at s.heap its
  have older : ∀ b o, s.heap.get? b = some o → (PySem.W.copyHeap s.heap its).get? b = some o := fun b o h => PySem.W.copyHeap_old h
  generalize PySem.W.copyHeap s.heap its = h1 at laid older ⊢
  have big := Heap.lt_size laid
  unfold ksk_tree
  obtain ⟨n1, emptied⟩ : ∃ n, (h1.update (s.heap.objs.size + 1) (Obj.mapSeq fun _ => (#[] : Array Value))).get? (s.heap.objs.size + 1) = some (seqObj "list" #[] n) := ⟨_, get?_update_seq laid fun _ => #[]⟩
  have other := (Heap.SameBut.update h1 (s.heap.objs.size + 1) (Obj.mapSeq fun _ => (#[] : Array Value))).2
  have sized : (h1.update (s.heap.objs.size + 1) (Obj.mapSeq fun _ => (#[] : Array Value))).objs.size = h1.objs.size := Heap.size_update ..
  refine wpAny_bind (listItems_at laid rfl (wpAny_bind (listUpdate_at laid rfl ?_ (by simpa using short) (by simp))))
  refine wpAny_bind (seqEpoch_at emptied rfl (wpAny_bind (wpAny_newTuple (wpAny_bind (wpAny_newList (wpAny_holding ?_) (by simp))) (by simpa using short))))
  dsimp only
  generalize h1.update (s.heap.objs.size + 1) (Obj.mapSeq fun _ => (#[] : Array Value)) = h2 at emptied other sized ⊢
  rw [size_push']
  have still : ∀ b o, h2.get? b = some o → ((h2.push (seqObj "tuple" its.toArray 0)).push (seqObj "list" #[] 0)).get? b = some o := fun b o h => Heap.get?_push_of_some _ (Heap.get?_push_of_some _ h)
  have store : ((h2.push (seqObj "tuple" its.toArray 0)).push (seqObj "list" #[] 0)).get? (h2.objs.size + 1) = some (seqObj "list" #[] 0) := by
    have := Heap.get?_push_size (h2.push (seqObj "tuple" its.toArray 0)) (o := seqObj "list" #[] 0) rfl
    rwa [size_push'] at this
  have all : ∀ b o, s.heap.get? b = some o → ((h2.push (seqObj "tuple" its.toArray 0)).push (seqObj "list" #[] 0)).get? b = some o := fun b o h => by
    exact still b o ((other b (Nat.ne_of_lt (Nat.lt_succ_of_lt (Heap.lt_size h)))).trans (older b o h))
  have more : s.heap.objs.size + 1 < h2.objs.size := by
    rw [sized]
    exact big
  have least : s.heap.objs.size ≤ h2.objs.size + 1 := by omega
  have na := nobody I (Nat.le_succ s.heap.objs.size)
  have nb := nobody I least
  refine rest_run (pins := pins) (H := H) ?_ store (I.hok.fresh least) na nb (Nat.ne_of_lt (Nat.lt_succ_of_lt more)) (Nat.ne_of_lt (Nat.lt_of_lt_of_le gLt least)) hu items short turn fun H' sm hn => goal H' _ sm hn
  refine (I.kept (t' := s.toks) all).pins_of fun d m => ?_
  simp only [List.mem_cons] at m
  rcases m with rfl | rfl | m
  · exact ⟨all _ _ at_, free, gL, gF, nc⟩
  · exact ⟨still _ _ emptied, I.hok.fresh (Nat.le_succ _), na.frame, na.outer, fun v => nofun⟩
  · obtain ⟨y1, y2⟩ := I.pin d (List.mem_append.mpr (Or.inr m))
    exact ⟨all _ _ y1, y2⟩
end
end SL

set_option Elab.async false
set_option linter.all false
set_option maxRecDepth 100000
set_option maxHeartbeats 2000000
namespace SL
open PySem PySem.Spec PyProof.Rows L2 LamX NdefX
def tSorted (K : PySem.W.Frag) (T : List (Addr × Str)) (ns : List Str) (js : List Nat) (tb : TE) (ta : TA) : TE := fun σ H Q => ta σ H fun vs H1 => ∃ (l : Addr) (zs : List Int) (p q : Int → Int), vs = [V.ref l] ∧ Tabs T H1 ∧ SqL K H1 l (zs.map V.int) ∧
  (∀ z, z ∈ zs → ∀ H2, ExtN H1 H2 → tb (startF ns [V.int z] (js.map (slotAt σ))) H2 fun v H3 => ∃ t, v = .ref t ∧ H3 t = some (.tup [.int (p z), .int (q z)]) ∧ Same H2 H3) ∧
  ∀ H2 c, ExtN H1 H2 → Tabs T H2 → H2 c = none → Q (.ref c) (upd H2 c (.lst ((zs.mergeSort (leTwo p q)).map V.int)))
theorem ext_same {H H1 H2 : Hp} (e : ExtN H H1) (s : Same H1 H2) : ExtN H H2 := fun a o h n => s a o (e a o h n)
theorem ext_seq {K : PySem.W.Frag} {H H' : Hp} {l : Addr} {xs : List V} (e : ExtN H H') (h : SqL K H l xs) : SqL K H' l xs := by
  obtain (y | ⟨o, y⟩) | y := h
  · exact Or.inl (Or.inl (e l _ y nofun))
  · exact Or.inl (Or.inr ⟨o, e l _ y nofun⟩)
  · exact Or.inr y
theorem pe_sorted {X : Cx} {T : List (Addr × Str)} {c P : Addr} {k : Nat} {ar : Arguments} {b e : Expr} {sc : Scope} {x : Str} {fr : List Str} {js : List Nat} {tb : TE} {ta : TA} {p1 p2 p3 p4 : Pos} (hg : Gl X "sorted") (hm : X.mg "sorted" = none) (args : PA X [e] ta)
    (text : Text X ar sc x fr js) (tab : TabB X.base X.mg c P) (code : X.env.code = .ref c) (among : (P, X.env.qual ++ "<lambda>") ∈ T) (only : ∀ y ∈ T, y.1 = P → y.2 = X.env.qual ++ "<lambda>") (hr : Room (k + 3) X.A)
    (body : ∀ (A : Around) (s : Shared) (H : Hp) (g co : Addr), Room k (A.deeper (envF (asNF X ar sc co) g s.heap.objs.size)) → PE (inside X A s H (x :: fr) ar sc g co) b tb)
    (h1 : backTo p4 (starEach [e] X.env) = (false, eval e X.env) :: backTo p4 (starEach [] X.env) := by rfl) (h2 : (backTo p4 (starEach [e] X.env)).any (·.1) = false := by rfl) :
    PE X (.Call (.Name "sorted" p1) [e] [⟨some "key", .Lambda ar b sc p2, p3⟩] p4) (tSorted X.K T (x :: fr) js tb ta) := by
  constructor
  intro pins s σ H Q I reading
  have found : bootBuiltins "sorted" = some (.builtin "sorted") := by decide +kernel
  refine wpAny_Call_Name_kw (ld_blt I hg hm found (PyProof.Rows.callWith_kw (thn (args.run p4 pins s σ H _ I reading) ?_) h1 h2 (by rfl) (by rfl)) (by decide) (by decide))
  rintro us s1 ⟨vs, H1, I1, rel, l, zs, p, q, rfl, tabs, list, each, goal⟩
  cases Vals.ref1 rel
  show wpAny _ _ (evalAll [do let v ← eval (.Lambda ar b sc p2) X.env; standAt p4; pure v]) _ _ s1
  refine wpAny_evalAll_cons (wpAny_bind (lam_make2 I1 tab code among only tabs text.plain (text.cells I1.ok) ?_))
  intro g co m ct H2 s2 I2 ext tabs2 at_ free nf hco
  refine wpAny_bind (wpAny_standAt (wpAny_pure (wpAny_evalAll_nil ?_)))
  have deep : X.A.units + 3 < cLine := by
    have := hr.un
    omega
  refine sorted_run (X := X) (g := g) (p := p) (q := q) I2 (ext_seq ext list) deep at_ free nf (fun _ => nofun) (fun _ _ => nofun) ?_ fun H3 c' sm hn => goal H3 c' (ext_same ext sm) (tabs2.ext sm) hn
  intro z u s3 H3 pins3 hz iz I3 sm at3
  exact calls (k := k) text I3 I3.env0.in1.in1 hr.in1.in1 (v := .int z) iz at3 (sm _ _ hco) (fun r => body _ _ _ _ _ r) (each z hz H3 (ext_same ext sm))
end SL

set_option Elab.async false
set_option linter.all false
set_option maxRecDepth 100000
set_option maxHeartbeats 1600000
/-! A call of the row's def where code objects' tables have to be followed from the start. -/
namespace RowEnd
open PySem PySem.Spec L2 LamX PyProof.Rows
open PySem.W (WData Codec OpenSpec WellAll ReadsW CodeHd)
section grow
variable {K : PySem.W.Frag} {G G' : Hp}
theorem tuple_on (e : Same G G') {a : Addr} {xs : List V} (h : SqT K G a xs) : SqT K G' a xs := by
  obtain (y | ⟨o, y⟩) | y := h
  · exact Or.inl (Or.inl (e a _ y))
  · exact Or.inl (Or.inr ⟨o, e a _ y⟩)
  · exact Or.inr y
mutual
theorem one_on (e : Same G G') {v : V} {d : WData} (h : Dw K G v d) : Dw K G' v d := by
  match h with
  | .non => exact .non
  | .bl z => exact .bl z
  | .int z => exact .int z
  | .str z => exact .str z
  | .byt z => exact .byt z
  | .lst s m => exact Dw.lst (e.seq s) (all_on e m)
  | .tup s m => exact Dw.tup (tuple_on e s) (all_on e m)
theorem all_on (e : Same G G') {vs : List V} {ds : List WData} (h : DwAll K G vs ds) : DwAll K G' vs ds := by
  match h with
  | .nil => exact .nil
  | .cons m ms => exact DwAll.cons (one_on e m) (all_on e ms)
end
end grow
abbrev blank : Obj := { cls := .none, data := .fields #[] }
/-- the abstract heap of the start: the arguments, and an empty table for each code object -/
def start (K : PySem.W.Frag) (h : Heap) (A : List Addr) (ts : List (Addr × Addr)) : Hp := fun b => if (ts.map Prod.snd).contains b then some (.tbl #[]) else argH K h A b
/-- how things lie there -/
structure Lies (K : PySem.W.Frag) (h : Heap) (A : List Addr) (ts : List (Addr × Addr)) : Prop where
  args : ∀ a ∈ A, ArgOb h A a
  void : ∀ t ∈ ts, h.get? t.2 = some blank
  own : ∀ t ∈ ts, K.lookup t.2 = none
section
variable {K : PySem.W.Frag} {h : Heap} {A : List Addr} {ts : List (Addr × Addr)} {b : Addr} {o : Obj} {u : HO}
theorem start_tab {t : Addr × Addr} (m : t ∈ ts) : start K h A ts t.2 = some (.tbl #[]) := by
  unfold start
  rw [if_pos]
  exact List.contains_iff_mem.mpr (List.mem_map_of_mem m)
theorem start_no (n : ¬ ∃ t ∈ ts, t.2 = b) : start K h A ts b = argH K h A b := by
  unfold start
  rw [if_neg]
  intro m
  obtain ⟨t, y, z⟩ := List.mem_map.mp (List.contains_iff_mem.mp m)
  exact n ⟨t, y, z⟩
/-- what is followed is a table, or a list or a tuple of the arguments, as it was handed in -/
theorem Lies.cases (L : Lies K h A ts) (q : start K h A ts b = some u) : (∃ t ∈ ts, t.2 = b ∧ u = .tbl #[]) ∨
    ((¬ ∃ t ∈ ts, t.2 = b) ∧ K.lookup b = none ∧ argH K h A b = some u ∧ ∃ (o : Obj) (c : Value) (us : List Value) (y : HO), o = { cls := c, data := .seq us.toArray } ∧ h.get? b = some o ∧ u = .frz o y) := by
  by_cases m : ∃ t ∈ ts, t.2 = b
  · obtain ⟨t, y, rfl⟩ := m
    rw [start_tab y] at q
    exact Or.inl ⟨t, y, rfl, (Option.some.inj q).symm⟩
  · rw [start_no m] at q
    obtain ⟨k, us, -, -, z⟩ := argH_is L.args q
    rcases z with ⟨at_, e⟩ | ⟨at_, e⟩
    · exact Or.inr ⟨m, k, q, _, _, us, _, rfl, at_, e⟩
    · exact Or.inr ⟨m, k, q, _, _, us, _, rfl, at_, e⟩
theorem Lies.apart (L : Lies K h A ts) (at_ : h.get? b = some o) (h1 : ∀ us n, o.data ≠ .seq us n) (h2 : o.data ≠ .fields #[]) : start K h A ts b = none := by
  cases q : start K h A ts b with
  | none => rfl
  | some u =>
    exfalso
    rcases L.cases q with ⟨t, m, rfl, -⟩ | ⟨-, -, -, o', c, us, y, eo, at', -⟩
    · have z := (L.void t m).symm.trans at_
      exact h2 (by rw [← Option.some.inj z])
    · have z := at'.symm.trans at_
      rw [eo] at z
      exact h1 _ _ (by rw [← Option.some.inj z])
theorem Lies.dict (L : Lies K h A ts) {es : Array DictEntry} {n : Nat} (at_ : h.get? b = some o) (d : o.data = .dict es n) : start K h A ts b = none := by
  apply L.apart at_
  · intro us m z
    rw [d] at z
    exact Data.noConfusion z
  · intro z
    rw [d] at z
    exact Data.noConfusion z
theorem Lies.unwritten (L : Lies K h A ts) (q : start K h A ts b = some u) : K.lookup b = none := by
  rcases L.cases q with ⟨t, m, rfl, -⟩ | ⟨-, k, -⟩
  · exact L.own t m
  · exact k
theorem Lies.more (L : Lies K h A ts) : Same (argH K h A) (start K h A ts) := by
  intro b u q
  rw [start_no, q]
  rintro ⟨t, m, rfl⟩
  have z := L.void t m
  obtain ⟨-, us, -, -, ⟨at_, -⟩ | ⟨at_, -⟩⟩ := argH_is L.args q
  · exact Data.noConfusion (congrArg Obj.data (Option.some.inj (at_.symm.trans z)))
  · exact Data.noConfusion (congrArg Obj.data (Option.some.inj (at_.symm.trans z)))
theorem Lies.holds {P : Program} {w : World} (L : Lies K h A ts) : HOk P w (start K h A ts) h := by
  intro b u q
  rcases L.cases q with ⟨t, m, rfl, rfl⟩ | ⟨-, -, z, o, c, us, y, -, at_, rfl⟩
  · exact L.void t m
  · have hk : HOk P w (argH K h A) h := argH_ok L.args
    have ok := hk b _ z
    obtain ⟨-, us', h1, h2, ⟨at', e⟩ | ⟨at', e⟩⟩ := argH_is L.args z
    · cases e
      exact ⟨at', by simpa using h1, us', _, vals_toV h2, at'⟩
    · cases e
      exact ⟨at', by simpa using h1, us', vals_toV h2, _, at', rfl, _, rfl⟩
theorem Lies.inside (L : Lies K h A ts) (k : K.In h) : K.In (hidT h (start K h A ts)) := by
  intro b o e
  refine hidT_get (k b o e) ?_
  cases q : start K h A ts b with
  | none => rfl
  | some u => exact absurd (L.unwritten q) (by simp [e])
theorem Lies.space (L : Lies K h A ts) {m : Str → Option Value} (n : h.Ns b m) : (hidT h (start K h A ts)).Ns b m := by
  obtain ⟨o, es, ep, at_, d, r⟩ := n
  exact ⟨o, es, ep, hidT_get at_ (L.dict at_ d), d, r⟩
/-- the module of Python's own names, as the head lays it -/
def HasBuiltins (h : Heap) (mg : Str → Option Value) : Prop := ∃ (m : Addr) (o : Obj), mg "__builtins__" = some (.ref m) ∧ m ≠ builtinsNs ∧ h.get? m = some o ∧ o.cls = .type "module" ∧ o.dict = some builtinsNs ∧ o.data = .plain
theorem Lies.table (L : Lies K h A ts) {mg : Str → Option Value} (g : h.Ns mainGlobals mg) (B : HasBuiltins h mg) {t : Addr × Addr} (m : t ∈ ts) (C : CodeHd h t.1 t.2) : TabB (hidT h (start K h A ts)) mg t.1 t.2 := by
  have gOther : ∀ {c : Addr} {o : Obj}, h.get? c = some o → (∀ es n, o.data ≠ .dict es n) → c ≠ mainGlobals := by
    rintro c o at_ nd rfl
    obtain ⟨o', es, ep, at', d, -⟩ := g
    rw [at'] at at_
    exact nd es ep (Option.some.inj at_ ▸ d)
  refine ⟨?_, ?_, ?_⟩
  · obtain ⟨o, us, f1, f2, f3, f4, f5, f6, f7, at_, r1, r2, r3, rest⟩ := C
    refine ⟨o, us, f1, f2, f3, f4, f5, f6, f7, hidT_get at_ (L.apart at_ ?_ ?_), r1, r2, r3, rest⟩
    · intro vs n z
      rw [r2] at z
      exact Data.noConfusion z
    · intro z
      rw [r2] at z
      injection z with z
      rw [z] at r3
      simp at r3
  · obtain ⟨c, o, e1, e2, at_, e3, e4, e5⟩ := B
    refine ⟨c, o, e1, e2, ?_, ?_, hidT_get at_ (L.apart at_ ?_ ?_), e3, e4, e5⟩
    · exact gOther at_ fun es n z => Data.noConfusion (e5.symm.trans z)
    · rintro rfl
      rw [L.void t m] at at_
      rw [← Option.some.inj at_] at e5
      exact Data.noConfusion e5
    · exact fun vs n z => Data.noConfusion (e5.symm.trans z)
    · exact fun z => Data.noConfusion (e5.symm.trans z)
  · exact (gOther (L.void t m) fun es n z => Data.noConfusion z).symm
theorem Lies.env {P : Program} {w : World} (L : Lies K h A ts) {mg mb : Str → Option Value} {s : Shared} (hs : s.heap = h) (k : K.In h) (g : h.Ns mainGlobals mg) (n : h.Ns builtinsNs mb) (nb : ∀ x : Str, x ≠ "__name__" → mb x = bootBuiltins x) (nl : h.NoLimit) (gens : s.gens = #[]) :
    Env0 P w K mg (hidT h (start K h A ts)) callerA [] s (start K h A ts) := by
  subst hs
  refine ⟨rfl, ⟨L.inside k, L.space g, ⟨mb, L.space n, nb⟩, ?_⟩, fun b o e => of_hidT e, Nat.le_of_eq (hidT_size _ _), trivial, ?_, L.holds, .of_eq gens⟩
  · obtain ⟨mc, n1, n2⟩ := nl
    exact ⟨mc, L.space n1, n2⟩
  · intro b m
    cases (show b ∈ ([] : List Addr) from m)
end
/-- what has to be known of the def where the row calls it -/
structure Meets (r : OpenSpec) (w : World) (K : PySem.W.Frag) (CX : CXT) (k : Nat) (ps : List Str) (sp : Sp) (mg : Str → Option Value) (fa : Addr) (h : Heap) (fd : FuncData) (ts : List (Addr × Addr)) : Prop where
  void : ∀ t ∈ ts, h.get? t.2 = some blank
  own : ∀ t ∈ ts, K.lookup t.2 = none
  code : ∀ t ∈ ts, CodeHd h t.1 t.2
  binds : ∀ (s : Shared) (us : List Value), us.length = ps.length → BindsTo s fd ⟨us, []⟩ (ps.zip us)
  says : ∀ (H : Hp) (xs : List V) (a : Codec.denoteAll r.args), (∀ t ∈ ts, H t.2 = some (.tbl #[])) → Codec.withinAll r.args a = true → Codec.app r.args r.asked a = true → DwAll K H xs (Codec.encAll r.args a) →
      sp xs H (fun v H' => Dw K H' v (r.ret.enc (Codec.app r.args r.f a))) fun _ _ _ => False
  runs : ∀ base : Heap, K.In base → base.Ns mainGlobals mg → (∀ t ∈ ts, TabB base mg t.1 t.2) → FnOk r.prog w K mg base CX k fa fd ps sp
section
variable {r : OpenSpec} {w : World} {K : PySem.W.Frag} {CX : CXT} {k : Nat} {ps : List Str} {sp : Sp} {mg mb : Str → Option Value} {fa : Addr} {fd : FuncData} {ts : List (Addr × Addr)} {s : Shared} {A : List Addr}
/-- what the call leaves of the old objects -/
theorem left (L : Lies K s.heap A ts) (C : ∀ t ∈ ts, CodeHd s.heap t.1 t.2) {s' : Shared} {H' : Hp} {P : Program} (stays : ∀ b o, s.heap.get? b = some o → start K s.heap A ts b = none → s'.heap.get? b = some o)
    (frz : ∀ b o y, start K s.heap A ts b = some (.frz o y) → H' b = some (.frz o y)) (tbl : ∀ b ps, start K s.heap A ts b = some (.tbl ps) → ∃ more, H' b = some (.tbl (ps ++ more))) (ok : HOk P w H' s'.heap) : OldK s.heap s'.heap ∧ (K.In s.heap → K.In s'.heap) := by
  have besides : ∀ b o, s.heap.get? b = some o → (¬ ∃ t ∈ ts, t.2 = b) → s'.heap.get? b = some o := by
    intro b o at_ n
    cases q : start K s.heap A ts b with
    | none => exact stays b o at_ q
    | some u =>
      rcases L.cases q with ⟨t, m, e, -⟩ | ⟨-, -, -, o', c, us, y, -, at', rfl⟩
      · exact absurd ⟨t, m, e⟩ n
      · rw [at'] at at_
        cases at_
        exact (ok b _ (frz b _ _ q)).1
  have wider : ∀ t ∈ ts, ∃ more : Array Value, s'.heap.get? t.2 = some { cls := .none, data := .fields more } := by
    intro t m
    obtain ⟨more, z⟩ := tbl t.2 #[] (start_tab m)
    exact ⟨_, ok t.2 _ z⟩
  refine ⟨⟨?_, ?_⟩, ?_⟩
  · intro b o at_
    by_cases n : ∃ t ∈ ts, t.2 = b
    · obtain ⟨t, m, rfl⟩ := n
      obtain ⟨more, z⟩ := wider t m
      cases (L.void t m).symm.trans at_
      refine Or.inr (Or.inl ⟨((C t m).tab (L.void t m)).isCodeTable, rfl, #[], more, rfl, ?_⟩)
      rw [z, Array.empty_append]
    · exact Or.inl (besides b o at_ n)
  · intro b o at_
    by_cases n : ∃ t ∈ ts, t.2 = b
    · obtain ⟨t, m, rfl⟩ := n
      obtain ⟨more, z⟩ := wider t m
      exact ⟨_, z⟩
    · exact ⟨o, besides b o at_ n⟩
  · intro kin b o e
    refine besides b o (kin b o e) ?_
    rintro ⟨t, m, rfl⟩
    rw [L.own t m] at e
    cases e
theorem called {vals : List Value} {a : Codec.denoteAll r.args} {R : PySem.W.WRecords} {cl : Str → Option Addr} (M : Meets r w K CX k ps sp mg fa s.heap fd ts) (kin : K.In s.heap) (g : s.heap.Ns mainGlobals mg) (n : s.heap.Ns builtinsNs mb) (nb : ∀ x : Str, x ≠ "__name__" → mb x = bootBuiltins x) (nl : s.heap.NoLimit) (gens : s.gens = #[])
    (B : HasBuiltins s.heap mg) (well : WellAll w.params s.heap vals (Codec.encAll r.args a)) (light : ∀ d ∈ Codec.encAll r.args a, d.weight ≤ 1048576) (hr : Room k callerA) (many : r.args.length = ps.length) (hwi : Codec.withinAll r.args a = true) (hask : Codec.app r.args r.asked a = true)
    (out : ∀ H e s', CX [] H s (fun _ _ _ => False) e s' → False) :
    codeAny (model r.prog w) callerA (.call (.ref fa) ⟨vals, []⟩) (fun res s' => ∃ u as, res = .ok (.ret u) ∧ ReadsW R cl s'.heap u (r.ret.enc (Codec.app r.args r.f a)) as ∧ OldK s.heap s'.heap ∧ s'.os = s.os ∧ AllBare s'.gens) s := by
  obtain ⟨A, okU, ar⟩ := area_all _ vals well (pl_encAll _ _) light
  have L : Lies K s.heap A ts := ⟨ar, M.void, M.own⟩
  have shown := all_on L.more (dw_all kin ar _ vals well (pl_encAll _ _) okU)
  have len : vals.length = ps.length := by
    rw [wellAll_len well, encAll_len, many]
  have f := M.runs _ (L.inside kin) (L.space g) fun t m => L.table g B m (M.code t m)
  have said := M.says (start K s.heap A ts) _ a (fun t m => start_tab m) hwi hask shown
  refine codeAny_mono (f.run callerA [] s _ ⟨vals, []⟩ vals (vals.map toV) _ _ hr (L.env rfl kin g n nb nl gens) (M.binds s vals len) (vals_toV okU) said) ?_
  rintro (e | (_ | _ | _ | u)) s' fin
  · exact absurd fin (out _ e s')
  · exact fin.elim
  · exact fin.elim
  · exact fin.elim
  · obtain ⟨v, H', os, bare, un, ok, rel, isD⟩ := fin
    obtain ⟨old, kin'⟩ := left L M.code (fun b o at_ z => un.keep b o at_ z (fun m => nomatch (show b ∈ ([] : List Addr) from m)) nofun) un.frzs un.tbls ok
    obtain ⟨as, reads⟩ := Dw.reads (R := R) (cl := cl) ok (kin' kin) _ v u isD rel
    exact ⟨u, as, rfl, reads, old, os, bare⟩
end
/-- the row's end: what the head leaves to show -/
theorem row_end {r : OpenSpec} {k : Nat} {q : Program} {loose : List Str} {XP : (Str → Option Value) → Heap → Prop} {YP : World → Heap → Prop} {d : DefRec} {K : Params → PySem.W.Frag} {CX : CXT} {ps : List Str} (well : r.wellSaid = true) (many : r.args.length = ps.length) (hr : Room k callerA)
    (written : ∀ (w : World) (h : Heap), YP w h → (K w.params).In h) (out : ∀ (H : Hp) (s : Shared) (e : Value) (s' : Shared), CX [] H s (fun _ _ _ => False) e s' → False)
    (meets : ∀ (w : World) (mean : ExcName → Option Value) (mg mb : Str → Option Value) (fa : Addr) (h : Heap), YP w h → (K w.params).In h → Top q (PySem.W.looseW q loose) mean mg mb h → mg d.name = some (.ref fa) → ∃ fd ts sp, Meets r w (K w.params) CX k ps sp mg fa h fd ts) : PySem.W.WalkOS q loose XP YP r d [] (fun f vs => PySem.call f vs) := by
  intro w s0 s1 mg mb G Y fa o pm cd doc dV kV ho hd hcd hD at_ gens args vals as pre laid _ wl _
  obtain ⟨a, dec, ask⟩ := PySem.W.os_pre_some pre
  obtain ⟨rfl, inside⟩ := Codec.encAll_of_decAll r.args args a dec
  have kin := written w _ Y
  obtain ⟨fd, ts, sp, M⟩ := meets w _ mg mb fa _ Y kin G.T at_
  have run := called (R := []) (cl := classAt s0.heap) (a := a) M kin G.T.g G.T.b G.T.builtins G.T.nolimit gens G.T.bmain wl (layable_weight laid) hr many inside ask fun H e s' => out H s1 e s'
  refine PySem.W.enter_call (codeAny_mono run ?_)
  rintro res s' ⟨u, as', rfl, reads, old, os, bare⟩
  refine ⟨Or.inl ⟨u, _, as', rfl, fun _ => rfl, reads, ?_, ?_⟩, old, os, bare⟩
  · exact (OpenSpec.post_iff well inside _ _).mpr rfl
  · intro z
    cases (show false = true from z)
end RowEnd

set_option Elab.async false
set_option linter.all false
set_option maxRecDepth 100000
set_option maxHeartbeats 2000000
namespace HD
open PySem PySem.Spec PyProof.Rows L2 LamX SL HC
open Kqk3 (User Network)
def top (i : Nat) : Stmt := PySem.Challenge.pw_heatcascades_s01_answers.main.body.getD i (.Pass ⟨0, 0, 0, 0⟩)
/-! ### what the heap holds -/
/-- an int -/
abbrev vI (n : Nat) : V := .int (n : Int)
def uF (u : User) : List (Str × V) := [("supply_grade", vI u.supply), ("return_grade", vI u.returned), ("value", vI u.value)]
def UserAt (C : Addr) (H : Hp) (a : Addr) (u : User) : Prop := ∃ dx, H a = some (.ins C dx (uF u))
theorem lk_here {k : Str} {v : V} {r : List (Str × V)} : List.lookup k ((k, v) :: r) = some v := by
  have e : (k == k) = true := beq_self_eq_true k
  simp only [List.lookup, e]
theorem lk_past {k g : Str} {v : V} {r : List (Str × V)} (h : (k == g) = false) : List.lookup k ((g, v) :: r) = List.lookup k r := by
  simp only [List.lookup, h]
theorem put_here {f : Str} {v x : V} {r : List (Str × V)} : putF f v ((f, x) :: r) = (f, v) :: r := if_pos rfl
theorem put_past {f g : Str} {v x : V} {r : List (Str × V)} (h : ¬ g = f) : putF f v ((g, x) :: r) = (g, x) :: putF f v r := if_neg h
theorem uF_s (u : User) : (uF u).lookup ("supply_grade" : Str) = some (vI u.supply) := lk_here
theorem uF_r (u : User) : (uF u).lookup ("return_grade" : Str) = some (vI u.returned) := (lk_past (by decide +kernel)).trans lk_here
theorem uF_v (u : User) : (uF u).lookup ("value" : Str) = some (vI u.value) := (lk_past (by decide +kernel)).trans ((lk_past (by decide +kernel)).trans lk_here)
theorem uF_none {m : Str} (h1 : (m == ("supply_grade" : Str)) = false) (h2 : (m == ("return_grade" : Str)) = false) (h3 : (m == ("value" : Str)) = false) (u : User) : (uF u).lookup m = none :=
  (lk_past h1).trans ((lk_past h2).trans ((lk_past h3).trans rfl))
theorem uF_put (u : User) (v : Nat) : putF "value" (vI v) (uF u) = uF { u with value := v } :=
  (put_past (by decide +kernel)).trans (congrArg _ ((put_past (by decide +kernel)).trans (congrArg _ put_here)))
theorem uF_new (s r v : Nat) : putF "value" (vI v) (putF "return_grade" (vI r) (putF "supply_grade" (vI s) [])) = uF ⟨s, r, v⟩ := by
  have e1 : putF "supply_grade" (vI s) [] = [(("supply_grade" : Str), vI s)] := rfl
  rw [e1, put_past (by decide +kernel)]
  have e2 : putF "return_grade" (vI r) [] = [(("return_grade" : Str), vI r)] := rfl
  rw [e2, put_past (by decide +kernel), put_past (by decide +kernel)]
  rfl
theorem UserAt.same {C : Addr} {H H' : Hp} {a : Addr} {u : User} (e : Same H H') (h : UserAt C H a u) : UserAt C H' a u := let ⟨dx, h⟩ := h; ⟨dx, e _ _ h⟩
theorem UserAt.extN {C : Addr} {H H' : Hp} {a : Addr} {u : User} (e : ExtN H H') (h : UserAt C H a u) : UserAt C H' a u := let ⟨dx, h⟩ := h; ⟨dx, e _ _ h fun ps z => nomatch z⟩
/-- the list at l holds the users us, at the addresses as -/
structure UsersAt (C : Addr) (H : Hp) (l : Addr) (as : List Addr) (us : List User) : Prop where
  lst : H l = some (.lst (as.map V.ref))
  len : as.length = us.length
  at_ : ∀ (j : Nat) (a : Addr), as[j]? = some a → ∃ u, us[j]? = some u ∧ UserAt C H a u
theorem UsersAt.extN {C : Addr} {H H' : Hp} {l : Addr} {as : List Addr} {us : List User} (e : ExtN H H') (B : UsersAt C H l as us) : UsersAt C H' l as us :=
  ⟨e _ _ B.lst (fun ps z => nomatch z), B.len, fun j a h => let ⟨u, h1, h2⟩ := B.at_ j a h; ⟨u, h1, h2.extN e⟩⟩
theorem UsersAt.same {C : Addr} {H H' : Hp} {l : Addr} {as : List Addr} {us : List User} (e : Same H H') (B : UsersAt C H l as us) : UsersAt C H' l as us := B.extN (ExtN.of e)
theorem UsersAt.get {C : Addr} {H : Hp} {l : Addr} {as : List Addr} {us : List User} (B : UsersAt C H l as us) {j : Nat} (h : j < us.length) : ∃ a, as[j]? = some a ∧ UserAt C H a (usr us j) := by
  have hj : j < as.length := by rw [B.len]; exact h
  obtain ⟨u, h1, h2⟩ := B.at_ j as[j] (List.getElem?_eq_getElem hj)
  refine ⟨as[j], List.getElem?_eq_getElem hj, ?_⟩
  have e : usr us j = u := by
    unfold usr
    rw [List.getD_eq_getElem?_getD, h1]; rfl
  rw [e]; exact h2
/-! ### class User -/
abbrev sUInit : Stmt := inClass (top 1) 0
abbrev sOcc : Stmt := inClass (top 1) 1
abbrev sCan : Stmt := inClass (top 1) 2
structure TU (K : PySem.W.Frag) (mg : Str → Option Value) (C : Addr) : Prop where
  cl : Cls K C
  nS : NoAttr K C "supply_grade"
  nR : NoAttr K C "return_grade"
  nV : NoAttr K C "value"
  gC : mg "User" = some (.ref C)
def spUInit (C : Addr) : Sp := fun vs H Q _ => ∃ (p dx : Addr) (s r v : Nat), vs = [.ref p, vI s, vI r, vI v] ∧ H p = some (.ins C dx []) ∧
  ∀ H' : Hp, UserAt C H' p ⟨s, r, v⟩ → (∀ b o, H b = some o → b ≠ p → H' b = some o) → Q .non H'
def spOcc (C : Addr) : Sp := fun vs H Q _ => ∃ (a : Addr) (u : User) (g : Nat), vs = [.ref a, vI g] ∧ UserAt C H a u ∧ Q (.bl (occ u g)) H
def spCan (C : Addr) : Sp := fun vs H Q _ => ∃ (a b : Addr) (u o : User), vs = [.ref a, .ref b] ∧ UserAt C H a u ∧ UserAt C H b o ∧ Q (.bl (decide (u.supply ≤ o.returned))) H
section
variable {P : Program} {w : World} {K : PySem.W.Frag} {mg : Str → Option Value} {base : Heap} {C : Addr}
theorem scUI : FnScope ["self", "supply_grade", "return_grade", "value"] ["self", "supply_grade", "return_grade", "value"] (defScope sUInit) := ⟨rfl, rfl, rfl, by decide +kernel, rfl, by decide +kernel, by decide +kernel⟩
theorem ok_uinit {f : Addr} {fd : FuncData} (F : Fun K "__init__" "User.__init__" sUInit f fd) (T : TU K mg C) : FnOk P w K mg base CX0 1 f fd ["self", "supply_grade", "return_grade", "value"] (spUInit C) := by
  refine F.ok scUI (fun vs H Q E h => ?_) (fun cdv A outer s H vs Q E hr h => ?_)
  · obtain ⟨p, dx, s, r, v, rfl, _⟩ := h
    rfl
  · obtain ⟨p, dx, sg, rg, v, rfl, hp, k⟩ := h
    refine ⟨_, pss_cons (ps_fld (pv 0) (pv 1) rfl) (pss_cons (ps_fld (pv 0) (pv 2) rfl) (pss_one (ps_fld (pv 0) (pv 3) rfl))), ?_⟩
    refine ⟨_, rfl, _, rfl, p, C, dx, [], rfl, hp, T.cl, T.nS, (by show 0 < 1000; decide), ?_⟩
    refine ⟨_, rfl, _, rfl, p, C, dx, _, rfl, upd_same, T.cl, T.nR, (by show 1 < 1000; decide), ?_⟩
    refine ⟨_, rfl, _, rfl, p, C, dx, _, rfl, upd_same, T.cl, T.nV, (by show 2 < 1000; decide), ?_⟩
    exact k _ ⟨dx, Eq.trans upd_same (congrArg (fun q => some (HO.ins C dx q)) (uF_new sg rg v))⟩ fun b o e hb => by
      rw [upd_ne hb, upd_ne hb, upd_ne hb]
      exact e
theorem scO : FnScope ["self", "grade"] ["self", "grade"] (defScope sOcc) := ⟨rfl, rfl, rfl, by decide +kernel, rfl, by decide +kernel, by decide +kernel⟩
theorem ok_occ {f : Addr} {fd : FuncData} (F : Fun K "occupies" "User.occupies" sOcc f fd) (T : TU K mg C) : FnOk P w K mg base CX0 1 f fd ["self", "grade"] (spOcc C) := by
  refine F.ok scO (fun vs H Q E h => ?_) (fun cdv A outer s H vs Q E hr h => ?_)
  · obtain ⟨a, u, g, rfl, _⟩ := h
    rfl
  · obtain ⟨a, u, g, rfl, ⟨dx, ha⟩, k⟩ := h
    refine ⟨_, pss_one (ps_ret (pe_and (pe_cmpR op_lt (pe_fld (pv 0) rfl) (pv 1) (nomark _)) (pe_one (pe_cmpR op_le (pv 1) (pe_fld (pv 0) rfl) (nomark _))))), ?_⟩
    refine ⟨_, rfl, a, C, dx, _, _, rfl, ha, T.cl, T.nR, uF_r u, _, rfl, _, _, rfl, rfl, _, rfl, ?_⟩
    have k' : Q (.bl (decide (u.returned < g) && decide (g ≤ u.supply))) H := k
    by_cases h1 : u.returned < g
    · rw [decide_eq_true (show (u.returned : Int) < (g : Int) by omega)]
      rw [decide_eq_true h1, Bool.true_and] at k'
      refine iteT ?_
      refine ⟨_, rfl, _, rfl, a, C, dx, _, _, rfl, ha, T.cl, T.nS, uF_s u, _, _, rfl, rfl, ?_⟩
      have e : decide ((g : Int) ≤ (u.supply : Int)) = decide (g ≤ u.supply) := by
        by_cases h2 : g ≤ u.supply
        · rw [decide_eq_true h2, decide_eq_true (by omega)]
        · rw [decide_eq_false h2, decide_eq_false (by omega)]
      show Q (.bl (decide ((g : Int) ≤ (u.supply : Int)))) H
      rw [e]
      exact k'
    · rw [decide_eq_false (show ¬ (u.returned : Int) < (g : Int) by omega)]
      rw [decide_eq_false h1, Bool.false_and] at k'
      exact iteF k'
theorem scC : FnScope ["self", "other"] ["self", "other"] (defScope sCan) := ⟨rfl, rfl, rfl, by decide +kernel, rfl, by decide +kernel, by decide +kernel⟩
theorem ok_can {f : Addr} {fd : FuncData} (F : Fun K "can_follow" "User.can_follow" sCan f fd) (T : TU K mg C) : FnOk P w K mg base CX0 1 f fd ["self", "other"] (spCan C) := by
  refine F.ok scC (fun vs H Q E h => ?_) (fun cdv A outer s H vs Q E hr h => ?_)
  · obtain ⟨a, b, u, o, rfl, _⟩ := h
    rfl
  · obtain ⟨a, b, u, o, rfl, ⟨dx, ha⟩, ⟨dy, hb⟩, k⟩ := h
    refine ⟨_, pss_one (ps_ret (pe_cmpR op_le (pe_fld (pv 0) rfl) (pe_fld (pv 1) rfl) (nomark _))), ?_⟩
    refine ⟨_, rfl, a, C, dx, _, _, rfl, ha, T.cl, T.nS, uF_s u, _, rfl, b, C, dy, _, _, rfl, hb, T.cl, T.nR, uF_r o, _, _, rfl, rfl, ?_⟩
    have e : decide ((u.supply : Int) ≤ (o.returned : Int)) = decide (u.supply ≤ o.returned) := by
      by_cases h2 : u.supply ≤ o.returned
      · rw [decide_eq_true h2, decide_eq_true (by omega)]
      · rw [decide_eq_false h2, decide_eq_false (by omega)]
    show Q (.bl (decide ((u.supply : Int) ≤ (o.returned : Int)))) H
    rw [e]
    exact k
end
end HD

set_option Elab.async false
set_option linter.all false
set_option maxRecDepth 100000
set_option maxHeartbeats 2000000
namespace HD
open PySem PySem.Spec PyProof.Rows L2 LamX SL HC
open Kqk3 (User Network)
theorem take_snoc {α : Type} {l : List α} {i : Nat} {x : α} (h : l[i]? = some x) : l.take (i + 1) = l.take i ++ [x] := by
  rw [List.take_add_one, h]; rfl
theorem ucnt_snoc (us : List User) (u : User) (g : Nat) : ucnt (us ++ [u]) g = ucnt us g + if occ u g = true then 1 else 0 := by
  unfold ucnt
  rw [List.filter_append, List.length_append, List.filter_cons]
  split
  · simp
  · simp
theorem map_get {α β : Type} {f : α → β} {l : List α} {i : Nat} {y : β} (h : (l.map f)[i]? = some y) : ∃ x, l[i]? = some x ∧ y = f x := by
  rw [List.getElem?_map] at h
  cases e : l[i]? with
  | none =>
    rw [e] at h
    cases h
  | some x =>
    rw [e] at h
    exact ⟨x, rfl, (Option.some.inj h).symm⟩
abbrev sLoad : Stmt := top 2
abbrev sPeak : Stmt := top 3
abbrev sGrade : Stmt := top 4
def spLoad (C : Addr) : Sp := fun vs H Q _ => ∃ (l : Addr) (as : List Addr) (us : List User) (g : Nat), vs = [.ref l, vI g] ∧ UsersAt C H l as us ∧ us.length ≤ 8 ∧ ∀ H', Same H H' → Q (vI (ucnt us g)) H'
/-- the built-in names that are not given another meaning -/
structure TB (mg : Str → Option Value) : Prop where
  len : mg "len" = none
  max : mg "max" = none
  range : mg "range" = none
  sorted : mg "sorted" = none
  list : mg "list" = none
section
variable {P : Program} {w : World} {K : PySem.W.Frag} {mg : Str → Option Value} {base : Heap} {C : Addr}
theorem scL : FnScope ["users", "grade", "user"] ["users", "grade"] (defScope sLoad) := ⟨rfl, rfl, rfl, by decide +kernel, rfl, by decide +kernel, by decide +kernel⟩
theorem ok_load {f fO : Addr} {fd fdO : FuncData} (F : Fun K "load_of" "load_of" sLoad f fd) (T : TU K mg C) (B : TB mg)
    (GO : FnOk P w K mg base CX0 1 fO fdO ["self", "grade"] (spOcc C)) (bO : Binds K fdO ["self", "grade"] []) (mO : Meth K C "occupies" fO) : FnOk P w K mg base CX0 2 f fd ["users", "grade"] (spLoad C) := by
  refine F.ok scL (fun vs H Q E h => ?_) (fun cdv A outer s H vs Q E hr h => ?_)
  · obtain ⟨l, as, us, g, rfl, _⟩ := h
    rfl
  · obtain ⟨l, as, us, g, rfl, U, h8, k⟩ := h
    refine ⟨_, pss_one (ps_ret (pe_callB call_len_seq (by rfl) B.len PySem.boot_len (pa_cons (pe_lc (own := [("user", 2)]) (g := gName 2) rfl scL.nd (pi_list (pv 0)) (blkOk_by (N := ["users", "grade", "user"]) (sc := defScope sLoad) (own := [("user", 2)]) (by decide +kernel)) (fun _ _ _ _ _ => pg_name (i := 2) scL.nd rfl (Or.inl rfl))
      (fun _ _ _ _ _ => pts_one (pt_val (pe_meth (pv 2) T.cl mO GO hr bO .nil pass0 (pa_cons (pv 1) pa_nil)))) (fun _ _ _ _ _ => pv 2)) pa_nil))), ?_⟩
    refine ⟨_, rfl, l, rfl, ⟨_, SqL.of U.lst⟩, fun D hD => ?_⟩
    have sD : Same H (upd H D (.lst [])) := fun b o e => by
      rw [upd_ne (ne_of_none e hD)]
      exact e
    refine lc_list (K := K) (a := l) (xs := as.map V.ref) (fun i H' => ∃ acc, H' D = some (.lst acc) ∧ acc.length = ucnt (us.take i) g ∧ Same H H') ⟨[], upd_same, rfl, sD⟩ (fun i H' _ ⟨_, _, _, sm⟩ => sm.seq (SqL.of U.lst)) ?_ ?_
    · rintro i x H' hx ⟨acc, hA, hlen, sm⟩
      obtain ⟨a, ha, rfl⟩ := map_get hx
      obtain ⟨u, hu, dx, hua⟩ := U.at_ i a ha
      have hi : i < us.length := (List.getElem?_eq_some_iff.mp hu).1
      refine ⟨rfl, _, rfl, a, dx, _, rfl, sm _ _ hua, uF_none (by decide +kernel) (by decide +kernel) (by decide +kernel) u, _, rfl, a, u, g, rfl, ⟨dx, sm _ _ hua⟩, _, rfl, ?_⟩
      have hc := ucnt_snoc (us.take i) u g
      rw [← take_snoc hu] at hc
      have hle := ucnt_le (us.take i) g
      rw [List.length_take] at hle
      cases ho : occ u g with
      | true =>
        rw [ho, if_pos rfl] at hc
        refine iteT ⟨_, rfl, acc, hA, small1000 (by omega), _, upd_same, by rw [List.length_append, hlen, hc]; rfl, fun b o e => ?_⟩
        rw [upd_ne (ne_of_none e hD)]
        exact sm _ _ e
      | false =>
        rw [ho, if_neg (by decide)] at hc
        exact iteF ⟨acc, hA, by rw [hlen, hc]; rfl, sm⟩
    · rintro H' ⟨acc, hA, hlen, sm⟩
      rw [List.length_map, U.len, List.take_length] at hlen
      refine ⟨D, acc, rfl, .inl (SqL.of hA), ?_⟩
      have k' := k H' sm
      rw [← hlen] at k'
      exact k'
end
end HD

set_option Elab.async false
set_option linter.all false
set_option maxRecDepth 100000
set_option maxHeartbeats 2000000
namespace HD
open PySem PySem.Spec PyProof.Rows L2 LamX SL HC
open Kqk3 (User Network)
def spPeak (C : Addr) : Sp := fun vs H Q _ => ∃ (l : Addr) (as : List Addr) (us : List User) (gc : Nat), vs = [.ref l, vI gc] ∧ UsersAt C H l as us ∧ us.length ≤ 8 ∧ 1 ≤ gc ∧ gc ≤ 12 ∧ ∀ H', Same H H' → Q (vI (peakOf us gc)) H'
def spGrade (C : Addr) : Sp := fun vs H Q _ => ∃ (l : Addr) (as : List Addr) (us : List User) (gc : Nat), vs = [.ref l, vI gc] ∧ UsersAt C H l as us ∧ us.length ≤ 8 ∧ 1 ≤ gc ∧ gc ≤ 12 ∧
  ∀ H' g, Same H H' → g < gc → (∀ i, i < g → ucnt us (i + 1) < peakOf us gc) → peakOf us gc ≤ ucnt us (g + 1) → Q (vI (g + 1)) H'
def mem (set n : Nat) : List Nat := (List.range n).filter fun i => decide (set / 2 ^ i % 2 = 1)
def spMembers : Sp := fun vs H Q _ => ∃ (set n : Nat), vs = [vI set, vI n] ∧ n ≤ 8 ∧ ∀ H' p, Same H H' → H p = none → H' p = some (.lst ((mem set n).map vI)) → Q (.ref p) H'
abbrev sMembers : Stmt := top 5
structure TD (K : PySem.W.Frag) (mg : Str → Option Value) (x : Str) (f : Addr) : Prop where
  g : mg x = some (.ref f)
  k : PySem.W.keepIn K (.ref f) = true
theorem dec_lt (a b : Nat) : decide ((a : Int) < (b : Int)) = decide (a < b) := by
  by_cases h : a < b
  · rw [decide_eq_true h, decide_eq_true (by omega)]
  · rw [decide_eq_false h, decide_eq_false (by omega)]
theorem dec_le (a b : Nat) : decide ((a : Int) ≤ (b : Int)) = decide (a ≤ b) := by
  by_cases h : a ≤ b
  · rw [decide_eq_true h, decide_eq_true (by omega)]
  · rw [decide_eq_false h, decide_eq_false (by omega)]
theorem dec_eq (a b : Nat) : decide (vI a = vI b) = decide (a = b) := by
  by_cases h : a = b
  · rw [decide_eq_true h, h, decide_eq_true rfl]
  · rw [decide_eq_false h, decide_eq_false]
    intro z
    injection z with z
    omega
section
variable {P : Program} {w : World} {K : PySem.W.Frag} {mg : Str → Option Value} {base : Heap} {C : Addr}
theorem scP : FnScope ["users", "grade_count", "grade"] ["users", "grade_count"] (defScope sPeak) := ⟨rfl, rfl, rfl, by decide +kernel, rfl, by decide +kernel, by decide +kernel⟩
theorem ok_peak {f fL : Addr} {fd fdL : FuncData} (F : Fun K "peak_load_of" "peak_load_of" sPeak f fd) (B : TB mg) (GL : FnOk P w K mg base CX0 2 fL fdL ["users", "grade"] (spLoad C)) (bL : Binds K fdL ["users", "grade"] []) (tL : TD K mg "load_of" fL) :
    FnOk P w K mg base CX0 3 f fd ["users", "grade_count"] (spPeak C) := by
  refine F.ok scP (fun vs H Q E h => ?_) (fun cdv A outer s H vs Q E hr h => ?_)
  · obtain ⟨l, as, us, g, rfl, _⟩ := h
    rfl
  · obtain ⟨l, as, us, gc, rfl, U, h8, g1, g12, k⟩ := h
    refine ⟨_, pss_one (ps_ret (pe_callB (cr_max rfl) (by rfl) B.max boot_max (pa_cons (pe_lc (own := [("grade", 2)]) (g := gName 2) rfl scP.nd (pi_range2 (by rfl) B.range (pa_cons pe_int (pa_cons (pe_op op_add (pv 1) pe_int) pa_nil))) (blkOk_by (N := ["users", "grade_count", "grade"]) (sc := defScope sPeak) (own := [("grade", 2)]) (by decide +kernel)) (fun _ _ _ _ _ => pg_name (i := 2) scP.nd rfl (Or.inl rfl))
      (fun _ _ _ _ _ => pts_nil) (fun _ _ _ _ _ => pe_call GL hr (by rfl) tL.g tL.k bL .nil pass0 (pa_cons (pv 0) (pa_cons (pv 2) pa_nil)))) pa_nil))), ?_⟩
    refine ⟨_, rfl, _, _, rfl, rfl, 1, _, rfl, ⟨by decide, by decide, by omega, by omega⟩, fun D hD => ?_⟩
    have sD : Same H (upd H D (.lst [])) := fun b o e => by
      rw [upd_ne (ne_of_none e hD)]
      exact e
    have en : ((gc : Int) + 1 - 1).toNat = gc := by omega
    refine lc_range (lo := 1) (n := ((gc : Int) + 1 - 1).toNat) (fun i H' => H' D = some (.lst (((List.range i).map fun j => ucnt us (j + 1)).map vI)) ∧ Same H H') ⟨upd_same, sD⟩ ?_ ?_
    · rintro i H' hi ⟨hA, sm⟩
      refine ⟨rfl, ?_⟩
      unfold tYes
      refine iteT ?_
      refine ⟨_, rfl, _, rfl, l, as, us, i + 1, ?_, U.same sm, h8, fun H4 sm4 => ⟨_, sm4 _ _ hA, small1000 (by simp; omega), ?_, fun b o e => ?_⟩⟩
      · have e : (1 : Int) + (i : Int) = ((i + 1 : Nat) : Int) := by omega
        show [V.ref l, V.int (1 + (i : Int))] = _
        rw [e]
      · rw [upd_same, List.range_succ, List.map_append, List.map_append]
        rfl
      · rw [upd_ne (ne_of_none e hD)]
        exact sm4 _ _ (sm _ _ e)
    · rintro H' ⟨hA, sm⟩
      rw [en] at hA
      refine ⟨D, ((List.range gc).map fun j => ucnt us (j + 1)).map fun (n : Nat) => (n : Int), rfl, ?_, by simp; omega, fun m hm hg => ?_⟩
      · rw [List.map_map]
        exact SqL.of hA
      · obtain ⟨n, hn, rfl⟩ := List.mem_map.mp hm
        have e : peakOf us gc = n := max_is hn fun y hy => by
          have z := hg (y : Int) (List.mem_map.mpr ⟨y, hy, rfl⟩)
          omega
        have k' := k H' sm
        rw [e] at k'
        exact k'
theorem scG : FnScope ["users", "grade_count", "peak", "grade"] ["users", "grade_count"] (defScope sGrade) := ⟨rfl, rfl, rfl, by decide +kernel, rfl, by decide +kernel, by decide +kernel⟩
theorem ok_grade {f fL fP : Addr} {fd fdL fdP : FuncData} (F : Fun K "peak_grade_of" "peak_grade_of" sGrade f fd) (GL : FnOk P w K mg base CX0 2 fL fdL ["users", "grade"] (spLoad C)) (bL : Binds K fdL ["users", "grade"] []) (tL : TD K mg "load_of" fL)
    (GP : FnOk P w K mg base CX0 3 fP fdP ["users", "grade_count"] (spPeak C)) (bP : Binds K fdP ["users", "grade_count"] []) (tP : TD K mg "peak_load_of" fP) : FnOk P w K mg base CX0 4 f fd ["users", "grade_count"] (spGrade C) := by
  refine F.ok scG (fun vs H Q E h => ?_) (fun cdv A outer s H vs Q E hr h => ?_)
  · obtain ⟨l, as, us, g, rfl, _⟩ := h
    rfl
  · obtain ⟨l, as, us, gc, rfl, U, h8, g1, g12, k⟩ := h
    refine ⟨_, pss_cons (ps_set (i := 2) scG.nd rfl (Or.inl rfl) (pe_call GP hr (by rfl) tP.g tP.k bP .nil pass0 (pa_cons (pv 0) (pa_cons (pv 1) pa_nil))))
      (pss_cons (ps_set (i := 3) scG.nd rfl (Or.inl rfl) pe_int)
      (pss_cons (ps_while PassesOwn.never (pt_cmpR op_lt (pe_call GL (hr.mono (by decide)) (by rfl) tL.g tL.k bL .nil pass0 (pa_cons (pv 0) (pa_cons (pv 3) pa_nil))) (pv 2) (nomark _)) (pss_one (ps_set (i := 3) scG.nd rfl (Or.inl rfl) (pe_op op_add (pv 3) pe_int))))
      (pss_one (ps_ret (pv 3))))), ?_⟩
    refine ⟨_, rfl, _, rfl, l, as, us, gc, rfl, U, h8, g1, g12, fun H1 s1 => ?_⟩
    obtain ⟨g0, hg0, hp0⟩ := peak_reached (us := us) (gc := gc) g1
    refine ⟨fun m σ' H' => ∃ g : Nat, σ' = [some (.ref l), some (vI gc), some (vI (peakOf us gc)), some (vI (g + 1))] ∧ m = gc - g ∧ g < gc ∧ (∀ i, i < g → ucnt us (i + 1) < peakOf us gc) ∧ Same H H', ⟨gc, 0, rfl, rfl, by omega, fun i hi => absurd hi (by omega), s1⟩, ?_⟩
    rintro m σ' H' ⟨g, rfl, rfl, hg, hlt, sm⟩
    refine ⟨_, rfl, _, rfl, l, as, us, g + 1, rfl, U.same sm, h8, fun H2 s2 => ?_⟩
    refine ⟨_, rfl, _, _, rfl, rfl, _, rfl, ?_⟩
    rw [dec_lt]
    by_cases hc : ucnt us (g + 1) < peakOf us gc
    · rw [decide_eq_true hc]
      refine iteT ⟨_, fun σ'' H'' z => ⟨gc - (g + 1), by omega, z⟩, ?_⟩
      have hlt' : ∀ i, i < g + 1 → ucnt us (i + 1) < peakOf us gc := fun i hi => by
        by_cases e : i = g
        · rw [e]; exact hc
        · exact hlt i (by omega)
      have hg' : g + 1 < gc := by
        by_cases q : g + 1 < gc
        · exact q
        · have z := hlt' g0 (by omega)
          omega
      refine ⟨_, rfl, _, _, rfl, rfl, g + 1, rfl, rfl, hg', hlt', sm.trans s2⟩
    · rw [decide_eq_false hc]
      refine iteF ⟨_, rfl, ?_⟩
      exact k H2 g (sm.trans s2) hg hlt (by omega)
theorem scM : FnScope ["user_set", "user_count", "number"] ["user_set", "user_count"] (defScope sMembers) := ⟨rfl, rfl, rfl, by decide +kernel, rfl, by decide +kernel, by decide +kernel⟩
theorem mem_snoc (set i : Nat) : mem set (i + 1) = mem set i ++ if set / 2 ^ i % 2 = 1 then [i] else [] := by
  unfold mem
  rw [List.range_succ, List.filter_append, List.filter_cons]
  split <;> simp_all
theorem ok_members {f : Addr} {fd : FuncData} (F : Fun K "members_of" "members_of" sMembers f fd) (B : TB mg) : FnOk P w K mg base CX0 1 f fd ["user_set", "user_count"] spMembers := by
  refine F.ok scM (fun vs H Q E h => ?_) (fun cdv A outer s H vs Q E hr h => ?_)
  · obtain ⟨set, n, rfl, _⟩ := h
    rfl
  · obtain ⟨set, n, rfl, h8, k⟩ := h
    refine ⟨_, pss_one (ps_ret (pe_lc (own := [("number", 2)]) (g := gName 2) rfl scM.nd (pi_range1 (by rfl) B.range (pa_cons (pv 1) pa_nil)) (blkOk_by (N := ["user_set", "user_count", "number"]) (sc := defScope sMembers) (own := [("number", 2)]) (by decide +kernel)) (fun _ _ _ _ _ => pg_name (i := 2) scM.nd rfl (Or.inl rfl))
      (fun _ _ _ _ _ => pts_one (pt_cmpR op_eq (pe_op op_odd (pe_op op_shrN (pv 0) (pv 2)) pe_int) pe_int (nomark _))) (fun _ _ _ _ _ => pv 2))), ?_⟩
    refine ⟨_, rfl, _, rfl, by omega, by omega, fun D hD => ?_⟩
    have sD : Same H (upd H D (.lst [])) := fun b o e => by
      rw [upd_ne (ne_of_none e hD)]
      exact e
    have en : ((n : Int)).toNat = n := by omega
    refine lc_range (lo := 0) (n := ((n : Int)).toNat) (fun i H' => H' D = some (.lst ((mem set i).map vI)) ∧ Same H H') ⟨upd_same, sD⟩ ?_ ?_
    · rintro i H' hi ⟨hA, sm⟩
      have e0 : (0 : Int) + (i : Int) = (i : Int) := by omega
      have es : (set : Int) / 2 ^ i = ((set / 2 ^ i : Nat) : Int) := by
        rw [Int.natCast_ediv, Int.natCast_pow]
        rfl
      refine ⟨rfl, _, rfl, _, rfl, set, i, rfl, congrArg V.int e0, set / 2 ^ i, congrArg V.int es, rfl, rfl, _, rfl, ?_⟩
      have ed : decide (V.int ((set / 2 ^ i % 2 : Nat) : Int) = V.int 1) = decide (set / 2 ^ i % 2 = 1) := dec_eq _ 1
      rw [ed]
      have hs := mem_snoc set i
      by_cases hb : set / 2 ^ i % 2 = 1
      · rw [decide_eq_true hb]
        rw [if_pos hb] at hs
        have hl : (mem set i).length ≤ i := by
          have z := List.length_filter_le (fun i => decide (set / 2 ^ i % 2 = 1)) (List.range i)
          rw [List.length_range] at z
          exact z
        refine iteT ⟨_, rfl, _, hA, small1000 (by rw [List.length_map]; omega), ?_, fun b o e => ?_⟩
        · rw [upd_same, hs, List.map_append]
          show some (HO.lst (_ ++ [V.int (0 + (i : Int))])) = _
          rw [e0]; rfl
        · rw [upd_ne (ne_of_none e hD)]
          exact sm _ _ e
      · rw [decide_eq_false hb]
        rw [if_neg hb, List.append_nil] at hs
        exact iteF ⟨by rw [hs]; exact hA, sm⟩
    · rintro H' ⟨hA, sm⟩
      rw [en] at hA
      exact k H' D sm hD hA
end
end HD

set_option Elab.async false
set_option linter.all false
set_option maxRecDepth 100000
set_option maxHeartbeats 2000000
namespace HD
open PySem PySem.Spec PyProof.Rows L2 LamX SL HC
open Kqk3 (User Network)
/-- the list at lc holds the cascades cs, as lists at cas -/
structure CascAt (H : Hp) (lc : Addr) (cas : List Addr) (cs : List (List Nat)) : Prop where
  lst : H lc = some (.lst (cas.map V.ref))
  len : cas.length = cs.length
  at_ : ∀ (j : Nat) (a : Addr), cas[j]? = some a → ∃ c, cs[j]? = some c ∧ H a = some (.lst (c.map vI))
  nd : cas.Nodup
  ap : lc ∉ cas
def InUs (us : List User) (cs : List (List Nat)) : Prop := ∀ c ∈ cs, c ≠ [] ∧ ∀ x ∈ c, x < us.length
theorem last_mem {c : List Nat} (h : c ≠ []) : lastOf c ∈ c ∧ atI (c.map vI) (-1) = some (vI (lastOf c)) := by
  have e : c = c.dropLast ++ [c.getLast h] := (List.dropLast_concat_getLast h).symm
  have e2 : lastOf c = c.getLast h := by
    unfold lastOf
    rw [List.getLastD_eq_getLast?, List.getLast?_eq_some_getLast h]; rfl
  refine ⟨by rw [e2]; exact List.getLast_mem h, ?_⟩
  rw [e2]
  have e3 : c.map vI = c.dropLast.map vI ++ [vI (c.getLast h)] := by
    conv => lhs; rw [e]
    rw [List.map_append]; rfl
  rw [e3]
  exact atI_last _ _
def spPlace (C : Addr) : Sp := fun vs H Q _ => ∃ (l lc : Addr) (as cas : List Addr) (us : List User) (cs : List (List Nat)) (i : Nat), vs = [.ref l, .ref lc, vI i] ∧ UsersAt C H l as us ∧ CascAt H lc cas cs ∧ cs.length ≤ 8 ∧ InUs us cs ∧ i < us.length ∧ Q (vI (placeFor us cs i)) H
abbrev sPlace : Stmt := top 6
section
variable {P : Program} {w : World} {K : PySem.W.Frag} {mg : Str → Option Value} {base : Heap} {C : Addr}
theorem scPl : FnScope ["users", "cascades", "number", "place", "last"] ["users", "cascades", "number"] (defScope sPlace) := ⟨rfl, rfl, rfl, by decide +kernel, rfl, by decide +kernel, by decide +kernel⟩
theorem ok_place {f fC : Addr} {fd fdC : FuncData} (F : Fun K "place_for" "place_for" sPlace f fd) (T : TU K mg C) (B : TB mg) (GC : FnOk P w K mg base CX0 1 fC fdC ["self", "other"] (spCan C)) (bC : Binds K fdC ["self", "other"] []) (mC : Meth K C "can_follow" fC) :
    FnOk P w K mg base CX0 2 f fd ["users", "cascades", "number"] (spPlace C) := by
  refine F.ok scPl (fun vs H Q E h => ?_) (fun cdv A outer s H vs Q E hr h => ?_)
  · obtain ⟨l, lc, as, cas, us, cs, i, rfl, _⟩ := h
    rfl
  · obtain ⟨l, lc, as, cas, us, cs, i, rfl, U, Cs, h8, hin, hi, k⟩ := h
    refine ⟨_, pss_cons (ps_for PassesOwn.never rfl (pi_range1 (by rfl) B.range (pa_cons (pe_callB call_len_seq (by rfl) B.len PySem.boot_len (pa_cons (pv 1) pa_nil)) pa_nil)) (pg_name (i := 3) scPl.nd rfl (Or.inl rfl))
        (pss_cons (ps_set (i := 4) scPl.nd rfl (Or.inl rfl) (pe_ix ix_list (pe_ix ix_list (pv 1) (pv 3) (fun _ _ => rfl)) (pe_un un_neg pe_int) (fun _ _ => rfl)))
        (pss_one (ps_if (pt_val (pe_meth (pe_ix ix_list (pv 0) (pv 2) (fun _ _ => rfl)) T.cl mC GC hr bC .nil pass0 (pa_cons (pe_ix ix_list (pv 0) (pv 4) (fun _ _ => rfl)) pa_nil))) (pss_one (ps_ret (pv 3))) pss_nil))))
      (pss_one (ps_ret (pe_callB call_len_seq (by rfl) B.len PySem.boot_len (pa_cons (pv 1) pa_nil)))), ?_⟩
    have hcl : (cas.map V.ref).length = cs.length := by rw [List.length_map, Cs.len]
    refine ⟨_, rfl, lc, _, rfl, .inl (SqL.of Cs.lst), _, rfl, by omega, by omega, ?_⟩
    obtain ⟨ai, hai, dxi, hui⟩ := U.get hi
    refine for_range (lo := 0) (n := (((cas.map V.ref).length : Nat) : Int).toNat) (fun k σ' H' => ∃ pl la, σ' = [some (.ref l), some (.ref lc), some (vI i), pl, la] ∧ H' = H ∧ ∀ (j : Nat) (c : List Nat), j < k → cs[j]? = some c → ¬ (usr us i).supply ≤ (usr us (lastOf c)).returned)
      ⟨_, _, rfl, rfl, fun j c hj => absurd hj (by omega)⟩ ?_ ?_
    · rintro j σ' H' hj ⟨pl, la, rfl, rfl, hn⟩
      have hj' : j < cs.length := by omega
      obtain ⟨a, ha⟩ : ∃ a, cas[j]? = some a := ⟨_, List.getElem?_eq_getElem (by rw [Cs.len]; exact hj')⟩
      obtain ⟨c, hc, hca⟩ := Cs.at_ j a ha
      obtain ⟨c1, c2⟩ := hin c (List.mem_of_getElem? hc)
      obtain ⟨m1, m2⟩ := last_mem c1
      obtain ⟨al, hal, dxl, hul⟩ := U.get (c2 _ m1)
      have e0 : (0 : Int) + (j : Int) = (j : Int) := by omega
      refine ⟨_, rfl, _, rfl, lc, _, _, _, rfl, rfl, SqL.of Cs.lst, at_of (j := j) e0 (by rw [List.getElem?_map, ha]; rfl), _, rfl, a, _, _, _, rfl, rfl, SqL.of hca, m2, ?_⟩
      refine ⟨_, rfl, _, rfl, l, _, _, _, rfl, rfl, SqL.of U.lst, at_of (j := i) rfl (by rw [List.getElem?_map, hai]; rfl), ai, dxi, _, rfl, hui, uF_none (by decide +kernel) (by decide +kernel) (by decide +kernel) _, ?_⟩
      refine ⟨_, rfl, _, rfl, l, _, _, _, rfl, rfl, SqL.of U.lst, at_of (j := lastOf c) rfl (by rw [List.getElem?_map, hal]; rfl), ai, al, _, _, rfl, ⟨dxi, hui⟩, ⟨dxl, hul⟩, _, rfl, ?_⟩
      by_cases hb : (usr us i).supply ≤ (usr us (lastOf c)).returned
      · rw [decide_eq_true hb]
        refine iteT ⟨_, rfl, ?_⟩
        have e := placeFor_of (us := us) (cs := cs) (i := i) (k := j) hj' (fun c' hc' => by
          rw [hc] at hc'
          cases hc'
          exact hb) fun j' c' h1 h2 => hn j' c' h1 h2
        rw [e] at k
        show Q (V.int (0 + (j : Int))) H'
        rw [e0]
        exact k
      · rw [decide_eq_false hb]
        refine iteF ⟨_, _, rfl, rfl, fun j' c' h1 h2 => ?_⟩
        by_cases e : j' = j
        · rw [e, hc] at h2
          cases h2
          exact hb
        · exact hn j' c' (by omega) h2
    · rintro σ' H' ⟨pl, la, rfl, rfl, hn⟩
      refine ⟨_, rfl, lc, _, rfl, .inl (SqL.of Cs.lst), ?_⟩
      have e := placeFor_end (us := us) (cs := cs) (i := i) fun j c h => hn j c (by
        have := (List.getElem?_eq_some_iff.mp h).1
        omega) h
      rw [e] at k
      show Q (V.int (((cas.map V.ref).length : Nat) : Int)) H'
      rw [hcl]
      exact k
end
end HD

set_option Elab.async false
set_option linter.all false
set_option maxRecDepth 100000
set_option maxHeartbeats 2000000
namespace HD
open PySem PySem.Spec PyProof.Rows L2 LamX SL NdefX HC
open Kqk3 (User Network)
def k1 (us : List User) (z : Int) : Int := -((usr us z.toNat).supply : Int)
def k2 (z : Int) : Int := z
def cI (n : Nat) : Int := (n : Int)
theorem sorted_is (us : List User) (ms : List Nat) : ((ms.map cI).mergeSort (leTwo (k1 us) k2)).map V.int = (ms.mergeSort (leBy us)).map vI := by
  have e := PySem.W.sort_maps (r := leBy us) (s := leTwo (k1 us) k2) cI (l := ms) fun a _ b _ => rfl
  rw [← e, List.map_map]
  rfl
/-- the tables that are tracked: the one of assignment_of's code -/
def qL : Str := ("assignment_of" : Str) ++ ".<locals>." ++ "<lambda>"
abbrev TT (Pt : Addr) : List (Addr × Str) := [(Pt, qL)]
abbrev sAssign : Stmt := top 7
/-- (-users[number].supply_grade, number) -/
def tKey (K : PySem.W.Frag) : TE := tTup (tCons (tUn (rU fun i => .int (-i)) (tFld K (tOp (rIxL K) (tVar 1) (tVar 0)) "supply_grade")) (tCons (tVar 0) tNil))
def spAssign (C Pt : Addr) : Sp := fun vs H Q _ => ∃ (l m : Addr) (as : List Addr) (us : List User) (ms : List Nat), vs = [.ref l, .ref m] ∧ UsersAt C H l as us ∧ H m = some (.lst (ms.map vI)) ∧ ms.length ≤ 8 ∧ (∀ i ∈ ms, i < us.length) ∧ Tabs (TT Pt) H ∧
  ∀ H' lc cas, ExtN H H' → Tabs (TT Pt) H' → CascAt H' lc cas (cascAll us (ms.mergeSort (leBy us)) []) → (∀ c ∈ cascAll us (ms.mergeSort (leBy us)) [], c.length ≤ 8) → (cascAll us (ms.mergeSort (leBy us)) []).length ≤ 8 → Q (.ref lc) H'
theorem CascAt.push {H : Hp} {lc q : Addr} {cas : List Addr} {cs : List (List Nat)} {i : Nat} (C : CascAt H lc cas cs) (hq : H q = none) : CascAt (upd (upd H q (.lst [vI i])) lc (.lst (cas.map V.ref ++ [.ref q]))) lc (cas ++ [q]) (cs ++ [[i]]) := by
  have nq : lc ≠ q := ne_of_none C.lst hq
  have ncas : ∀ a ∈ cas, a ≠ q := fun a ha z => by
    obtain ⟨j, hj⟩ := List.getElem?_of_mem ha
    obtain ⟨c, _, e⟩ := C.at_ j a hj
    rw [z, hq] at e
    cases e
  refine ⟨by rw [upd_same, List.map_append]; rfl, by rw [List.length_append, List.length_append, C.len]; rfl, fun j a h => ?_, ?_, fun z => ?_⟩
  · by_cases hj : j < cas.length
    · rw [List.getElem?_append_left hj] at h
      obtain ⟨c, h1, h2⟩ := C.at_ j a h
      have ha : a ∈ cas := List.mem_of_getElem? h
      refine ⟨c, by rw [List.getElem?_append_left (by rw [← C.len]; exact hj)]; exact h1, ?_⟩
      rw [upd_ne (fun z => C.ap (by rw [← z]; exact ha)), upd_ne (ncas a ha)]
      exact h2
    · have hj2 : j = cas.length := by
        have := (List.getElem?_eq_some_iff.mp h).1
        simp at this
        omega
      subst hj2
      rw [List.getElem?_append_right (Nat.le_refl _), Nat.sub_self] at h
      have e : q = a := Option.some.inj h
      subst e
      refine ⟨[i], by rw [C.len, List.getElem?_append_right (Nat.le_refl _), Nat.sub_self]; rfl, ?_⟩
      rw [upd_ne nq.symm, upd_same]
      rfl
  · rw [List.nodup_append]
    refine ⟨C.nd, by simp, fun a ha b hb => ?_⟩
    rw [List.mem_singleton] at hb
    rw [hb]
    exact ncas a ha
  · rcases List.mem_append.mp z with z | z
    · exact C.ap z
    · exact nq (List.mem_singleton.mp z)
theorem CascAt.grow {H : Hp} {lc a : Addr} {cas : List Addr} {cs : List (List Nat)} {i j : Nat} {c : List Nat} (C : CascAt H lc cas cs) (ha : cas[j]? = some a) (hc : cs[j]? = some c) : CascAt (upd H a (.lst (c.map vI ++ [vI i]))) lc cas (cs.set j (c ++ [i])) := by
  have hm : a ∈ cas := List.mem_of_getElem? ha
  refine ⟨by rw [upd_ne (fun z => C.ap (by rw [z]; exact hm))]; exact C.lst, by rw [List.length_set]; exact C.len, fun j' a' h => ?_, C.nd, C.ap⟩
  by_cases e : j' = j
  · subst e
    rw [ha] at h
    cases h
    refine ⟨c ++ [i], by rw [List.getElem?_set_self (List.getElem?_eq_some_iff.mp hc).1], ?_⟩
    rw [upd_same, List.map_append]; rfl
  · obtain ⟨c', h1, h2⟩ := C.at_ j' a' h
    refine ⟨c', by rw [List.getElem?_set_ne (fun z => e z.symm)]; exact h1, ?_⟩
    rw [upd_ne (fun z => e (nd_ix C.nd h (by rw [z]; exact ha)))]
    exact h2
section
variable {P : Program} {w : World} {K : PySem.W.Frag} {mg : Str → Option Value} {base : Heap} {C : Addr}
theorem scAs : FnScope ["users", "members", "ordered", "cascades", "number", "place"] ["users", "members"] (defScope sAssign) := ⟨rfl, rfl, rfl, by decide +kernel, rfl, by decide +kernel, by decide +kernel⟩
theorem ok_assign {f c Pt fP : Addr} {fdP : FuncData} {oc kV doc pm ct : Value} {od an : Option Addr} {osl : Array (Option Value)} (lk : K.lookup f = some ⟨oc, od, .func (PySem.W.fnOf "assignment_of" "assignment_of" (defArgs sAssign) (defBody sAssign) (defScope sAssign) .none kV doc pm an (.ref c) ct), osl⟩)
    (hcd : PySem.W.codeIn K (.ref c) "assignment_of" = true) (TBt : TabB base mg c Pt) (T : TU K mg C) (B : TB mg) (GP : FnOk P w K mg base CX0 2 fP fdP ["users", "cascades", "number"] (spPlace C)) (bP : Binds K fdP ["users", "cascades", "number"] []) (tP : TD K mg "place_for" fP) :
    FnOk P w K mg base CX0 4 f (PySem.W.fnOf "assignment_of" "assignment_of" (defArgs sAssign) (defBody sAssign) (defScope sAssign) .none kV doc pm an (.ref c) ct) ["users", "members"] (spAssign C Pt) := by
  refine fn_of lk hcd scAs (fun vs H Q E h => ?_) (fun A outer s H vs Q E hr h => ?_)
  · obtain ⟨l, m, as, us, ms, rfl, _⟩ := h
    rfl
  · obtain ⟨l, m, as, us, ms, rfl, U, hm, h8, hin, hT, k⟩ := h
    refine ⟨_, PSs.nox (pss_cons (ps_set (i := 2) scAs.nd rfl (Or.inl rfl) (pe_sorted (k := 0) (x := "number") (fr := ["users"]) (js := [0]) (T := TT Pt) (tb := tKey K) (by rfl) B.sorted (pa_cons (pv 1) pa_nil)
        ⟨nscope_by (by decide +kernel), (by exact (show ndefB (defScope sAssign) _ ["users"] = true from by decide +kernel)), rfl, fun _ _ _ _ _ _ _ => rfl, rfl⟩ TBt rfl (List.mem_singleton.mpr rfl) (fun p hp _ => by cases List.mem_singleton.mp hp; rfl) hr
        (fun _ _ _ _ _ _ => pe_tup (pa_cons (pe_un un_neg (pe_fld (pe_ix ix_list (pv 1) (pv 0) (fun _ _ => rfl)) rfl)) (pa_cons (pv 0) pa_nil)))))
      (pss_cons (ps_set (i := 3) scAs.nd rfl (Or.inl rfl) (pe_lst pa_nil))
      (pss_cons (ps_for PassesOwn.never rfl (pi_list (pv 2)) (pg_name (i := 4) scAs.nd rfl (Or.inl rfl))
        (pss_cons (ps_set (i := 5) scAs.nd rfl (Or.inl rfl) (pe_call GP (hr.mono (by decide)) (by rfl) tP.g tP.k bP .nil pass0 (pa_cons (pv 0) (pa_cons (pv 3) (pa_cons (pv 4) pa_nil)))))
        (pss_one (ps_if (pt_cmpR op_eq (pv 5) (pe_callB call_len_seq (by rfl) B.len PySem.boot_len (pa_cons (pv 3) pa_nil)) (nomark _))
          (pss_one (ps_expr (pe_bm PySem.F.plainAttrs_list PySem.F.slot_list_append PySem.F.type_list_append mt_append (pv 3) (pa_cons (pe_lst (pa_cons (pv 4) pa_nil)) pa_nil))))
          (pss_one (ps_expr (pe_bm PySem.F.plainAttrs_list PySem.F.slot_list_append PySem.F.type_list_append mt_append (pe_ix ix_list (pv 3) (pv 5) (fun _ _ => rfl)) (pa_cons (pv 4) pa_nil))))))))
      (pss_one (ps_ret (pv 3)))))), ?_⟩
    have hml : (ms.mergeSort (leBy us)).length ≤ 8 := by
      rw [List.length_mergeSort]
      exact h8
    -- ordered = sorted(members, key=..)
    refine ⟨_, rfl, m, ms.map cI, k1 us, k2, rfl, hT, ?_, fun z hz H2 e2 => ?_, fun H2 p e2 T2 np => ?_⟩
    · rw [List.map_map]
      exact SqL.of hm
    · obtain ⟨i, hi, rfl⟩ := List.mem_map.mp hz
      have U2 := U.extN e2
      obtain ⟨a, ha, dx, hu⟩ := U2.get (hin i hi)
      refine ⟨_, rfl, _, rfl, l, _, _, _, rfl, rfl, SqL.of U2.lst, at_of (j := i) rfl (by rw [List.getElem?_map, ha]; rfl), a, C, dx, _, _, rfl, hu, T.cl, T.nS, uF_s _, _, rfl, _, rfl, (by show 2 ≤ sizeLine; decide), fun t ht => ⟨t, rfl, ?_, fun b o e => ?_⟩⟩
      · rw [upd_same]
        rfl
      · rw [upd_ne (ne_of_none e ht)]
        exact e
    rw [sorted_is]
    obtain ⟨so, hso⟩ : ∃ so, so = ms.mergeSort (leBy us) := ⟨_, rfl⟩
    rw [← hso] at hml k ⊢
    have hsin : ∀ i ∈ so, i < us.length := fun i hi => hin i (by
      rw [hso] at hi
      exact (List.mergeSort_perm ms (leBy us)).mem_iff.mp hi)
    clear hso
    have e3 : ExtN H (upd H2 p (.lst (so.map vI))) := fun b o e n => by
      rw [upd_ne (ne_of_none (e2 b o e n) np)]
      exact e2 b o e n
    have T3 : Tabs (TT Pt) (upd H2 p (.lst (so.map vI))) := T2.ext fun b o e => by
      rw [upd_ne (ne_of_none e np)]
      exact e
    have hp3 : upd H2 p (.lst (so.map vI)) p = some (.lst (so.map vI)) := upd_same
    generalize upd H2 p (.lst (so.map vI)) = H3 at e3 T3 hp3 ⊢
    -- cascades = []
    refine ⟨Nat.zero_le _, fun lc nlc => ?_⟩
    have s0 : Same H3 (upd H3 lc (.lst [])) := fun b o e => by
      rw [upd_ne (ne_of_none e nlc)]
      exact e
    refine ⟨_, rfl, p, rfl, ⟨_, s0.seq (SqL.of hp3)⟩, for_list (K := K) (a := p) (xs := so.map vI) (fun i σ' H' => ∃ nu pl cas, σ' = [some (.ref l), some (.ref m), some (.ref p), some (.ref lc), nu, pl] ∧ Same H3 H' ∧ CascAt H' lc cas (cascAll us (so.take i) []) ∧ InUs us (cascAll us (so.take i) []) ∧
        (cascAll us (so.take i) []).length ≤ i ∧ (∀ c ∈ cascAll us (so.take i) [], c.length ≤ i) ∧ ∀ a ∈ cas, H3 a = none)
      ⟨_, _, [], rfl, s0, ⟨upd_same, rfl, fun j a h => by simp at h, List.nodup_nil, by simp⟩, fun c hc => by simp [cascAll] at hc, Nat.le_refl _, fun c hc => by simp [cascAll] at hc, fun a ha => absurd ha (by simp)⟩
      (fun i σ' H' _ ⟨_, _, _, _, sm, _⟩ => sm.seq (SqL.of hp3)) ?_ ?_⟩
    · rintro j x σ' H' hx ⟨nu, pl, cas, rfl, sm, Cs, hin', hl, hc8, hn⟩
      obtain ⟨i, hi, rfl⟩ := map_get hx
      have hj : j < so.length := (List.getElem?_eq_some_iff.mp hi).1
      have U4 : UsersAt C H' l as us := (U.extN e3).same sm
      have ep : cascAll us (so.take (j + 1)) [] = cascIn us (cascAll us (so.take j) []) i := by
        unfold cascAll
        rw [take_snoc hi, List.foldl_append]
        rfl
      obtain ⟨cs, hcs⟩ : ∃ cs, cs = cascAll us (so.take j) [] := ⟨_, rfl⟩
      rw [← hcs] at Cs hin' hl hc8 ep
      refine ⟨_, rfl, _, rfl, _, rfl, l, lc, as, cas, us, cs, i, rfl, U4, Cs, by omega, hin', hsin i (List.mem_of_getElem? hi), ?_⟩
      refine ⟨_, rfl, _, rfl, lc, _, rfl, .inl (SqL.of Cs.lst), rfl, _, rfl, ?_⟩
      have el : (cas.map V.ref).length = cs.length := by rw [List.length_map, Cs.len]
      have ed : decide (vI (placeFor us cs i) = V.int (((cas.map V.ref).length : Nat) : Int)) = decide (placeFor us cs i = cs.length) := by
        rw [el]
        exact dec_eq _ _
      rw [ed]
      have hil := hsin i (List.mem_of_getElem? hi)
      unfold cascIn at ep
      by_cases hp : placeFor us cs i = cs.length
      · rw [if_pos hp] at ep
        rw [decide_eq_true hp]
        refine iteT ⟨_, rfl, .inl ⟨rfl, _, SqL.of Cs.lst⟩, _, rfl, by (show 1 ≤ sizeLine); decide, fun q hq => ?_⟩
        have nq : lc ≠ q := ne_of_none Cs.lst hq
        refine ⟨lc, _, _, rfl, rfl, (by rw [upd_ne nq]; exact Cs.lst), small1000 (by omega), _, _, cas ++ [q], rfl, fun b o e => ?_, by rw [ep]; exact Cs.push hq, ?_, ?_, ?_, ?_⟩
        · rw [upd_ne (ne_of_none e nlc), upd_ne (ne_of_none (sm _ _ e) hq)]
          exact sm _ _ e
        · intro c hc
          rw [ep] at hc
          rcases List.mem_append.mp hc with z | z
          · exact hin' c z
          · rw [List.mem_singleton] at z
            subst z
            refine ⟨by simp, fun x hx => ?_⟩
            rw [List.mem_singleton] at hx
            rw [hx]
            exact hil
        · rw [ep, List.length_append]
          show cs.length + 1 ≤ j + 1
          omega
        · intro c hc
          rw [ep] at hc
          rcases List.mem_append.mp hc with z | z
          · have := hc8 c z
            omega
          · rw [List.mem_singleton] at z
            subst z
            show 1 ≤ j + 1
            omega
        · intro a ha
          rcases List.mem_append.mp ha with z | z
          · exact hn a z
          · rw [List.mem_singleton] at z
            rw [z]
            exact sm.free hq
      · rw [if_neg hp] at ep
        rw [decide_eq_false hp]
        have hple := placeFor_le us cs i
        obtain ⟨a, ha⟩ : ∃ a, cas[placeFor us cs i]? = some a := ⟨_, List.getElem?_eq_getElem (by rw [Cs.len]; omega)⟩
        obtain ⟨c, hc, hca⟩ := Cs.at_ _ a ha
        have hm2 : c ∈ cs := List.mem_of_getElem? hc
        have eg : cs.getD (placeFor us cs i) [] = c := by rw [List.getD_eq_getElem?_getD, hc]; rfl
        rw [eg] at ep
        have hcl := hc8 c hm2
        refine iteF ⟨_, rfl, _, rfl, lc, _, _, V.ref a, rfl, rfl, SqL.of Cs.lst, at_of (j := placeFor us cs i) rfl (by rw [List.getElem?_map, ha]; rfl), .inl ⟨rfl, _, SqL.of hca⟩, _, rfl, a, _, _, rfl, rfl, hca, small1000 (by rw [List.length_map]; omega), _, _, cas, rfl, fun b o e => ?_, by rw [ep]; exact Cs.grow ha hc, ?_, ?_, ?_, hn⟩
        · rw [upd_ne (ne_of_none e (hn a (List.mem_of_getElem? ha)))]
          exact sm _ _ e
        · intro c' hc'
          rw [ep] at hc'
          rcases List.mem_or_eq_of_mem_set hc' with z | z
          · exact hin' c' z
          · rw [z]
            refine ⟨by simp, fun x hx => ?_⟩
            rcases List.mem_append.mp hx with y | y
            · exact (hin' c hm2).2 x y
            · rw [List.mem_singleton] at y
              rw [y]
              exact hil
        · rw [ep, List.length_set]
          omega
        · intro c' hc'
          rw [ep] at hc'
          rcases List.mem_or_eq_of_mem_set hc' with z | z
          · have := hc8 c' z
            omega
          · rw [z, List.length_append]
            show c.length + 1 ≤ j + 1
            omega
    · rintro σ' H' ⟨nu, pl, cas, rfl, sm, Cs, hin', hl, hc8, hn⟩
      rw [List.length_map, List.take_length] at Cs hin' hl hc8
      refine ⟨_, rfl, ?_⟩
      exact k H' lc cas (ext_same e3 sm) (T3.ext sm) Cs (fun c hc => Nat.le_trans (hc8 c hc) hml) (Nat.le_trans hl hml)
end
end HD

set_option Elab.async false
set_option linter.all false
set_option maxRecDepth 100000
set_option maxHeartbeats 2000000
namespace HD
open PySem PySem.Spec PyProof.Rows L2 LamX SL HC
open Kqk3 (User Network)
abbrev sCost : Stmt := inClass (top 1) 3
abbrev sValue : Stmt := top 9
abbrev sPeakSet : Stmt := top 10
/-- further built-in names that are not given another meaning -/
structure TB2 (mg : Str → Option Value) : Prop where
  sum : mg "sum" = none
  int : mg "int" = none
theorem sum_cI (l : List Nat) : (l.map cI).sum = ((l.sum : Nat) : Int) := by
  induction l with
  | nil => rfl
  | cons x l ih =>
    rw [List.map_cons, List.sum_cons, List.sum_cons, ih, Int.natCast_add]
    rfl
theorem as_ints (l : List Nat) : (l.map cI).map V.int = l.map vI := by
  rw [List.map_map]
  rfl
theorem cutN {ps : List Nat} {k m : Nat} (hk : k ≤ m) (hm : m ≤ ps.length) : cutV (ps.map vI) (some (k : Int)) (some (m : Int)) = ((ps.take m).drop k).map vI := by
  unfold cutV
  rw [HT.sIx_nat, HT.sIx_nat, List.length_map, Nat.min_eq_left hm, Nat.min_eq_left (Nat.le_trans hk hm), ← List.map_drop, ← List.map_take, List.drop_take]
theorem same_new {H : Hp} {p : Addr} {o : HO} (hp : H p = none) : Same H (upd H p o) := fun b x e => by
  rw [upd_ne (ne_of_none e hp)]
  exact e
/-- len(users), the users at a local name -/
def rLenV (K : PySem.W.Frag) : List V → Hp → VK → Prop := fun xs H Q => ∃ p ys, xs = [.ref p] ∧ (SqL K H p ys ∨ SqT K H p ys) ∧ Q (.int ys.length) H
theorem call_lenV {X : Cx} : CallR X (.builtin "len") (rLenV X.K) := call_len_seq
theorem rd_lenV {K : PySem.W.Frag} {C : Addr} {σ : L2.St} {H : Hp} {Q : VK} {i : Nat} {l : Addr} {as : List Addr} {us : List User} (h0 : σ[i]? = some (some (.ref l))) (U : UsersAt C H l as us) (q : Q (vI us.length) H) :
    tCB (rLenV K) (tCons (tVar i) tNil) σ H Q := by
  refine ⟨_, h0, l, _, rfl, .inl (SqL.of U.lst), ?_⟩
  rw [List.length_map, U.len]
  exact q
def spCost (C : Addr) : Sp := fun vs H Q _ => ∃ (a g : Addr) (u : User) (ps : List Nat), vs = [.ref a, .ref g] ∧ UserAt C H a u ∧ H g = some (.lst (ps.map vI)) ∧ u.returned ≤ u.supply ∧ u.supply ≤ ps.length ∧ ∀ H', Same H H' → Q (vI (costOf u ps)) H'
def spValue (C : Addr) : Sp := fun vs H Q _ => ∃ (l : Addr) (as : List Addr) (us : List User) (set : Nat), vs = [.ref l, vI set] ∧ UsersAt C H l as us ∧ us.length ≤ 8 ∧ ∀ H', Same H H' → Q (vI (worth (pick us (mem set us.length)))) H'
def spPeakSet (C : Addr) : Sp := fun vs H Q _ => ∃ (l : Addr) (as : List Addr) (us : List User) (gc set : Nat), vs = [.ref l, vI gc, vI set] ∧ UsersAt C H l as us ∧ us.length ≤ 8 ∧ 1 ≤ gc ∧ gc ≤ 12 ∧ ∀ H', Same H H' → Q (vI (peakOf (pick us (mem set us.length)) gc)) H'
theorem in_mem {set m i : Nat} (h : i ∈ mem set m) : i < m := List.mem_range.mp (List.mem_filter.mp h).1
theorem mem_le (set m : Nat) : (mem set m).length ≤ m := by
  have z := List.length_filter_le (fun i => decide (set / 2 ^ i % 2 = 1)) (List.range m)
  rw [List.length_range] at z
  exact z
/-- a list of some of the users is a list of users -/
theorem UsersAt.some_ {C : Addr} {H H' : Hp} {l D : Addr} {as : List Addr} {us : List User} {ms : List Nat} (U : UsersAt C H l as us) (s : Same H H') (hin : ∀ i ∈ ms, i < us.length) (hD : H' D = some (.lst ((ms.map fun i => as.getD i 0).map V.ref))) :
    UsersAt C H' D (ms.map fun i => as.getD i 0) (pick us ms) := by
  refine ⟨hD, by unfold pick; rw [List.length_map, List.length_map], fun j a h => ?_⟩
  obtain ⟨i, hi, rfl⟩ := map_get h
  obtain ⟨a, ha, hu⟩ := U.get (hin i (List.mem_of_getElem? hi))
  refine ⟨usr us i, ?_, ?_⟩
  · unfold pick
    rw [List.getElem?_map, hi]
    rfl
  · rw [List.getD_eq_getElem?_getD, ha]
    exact hu.same s
section
variable {P : Program} {w : World} {K : PySem.W.Frag} {mg : Str → Option Value} {base : Heap} {C : Addr}
theorem scCo : FnScope ["self", "prices"] ["self", "prices"] (defScope sCost) := ⟨rfl, rfl, rfl, by decide +kernel, rfl, by decide +kernel, by decide +kernel⟩
theorem ok_cost {f : Addr} {fd : FuncData} (F : Fun K "cost" "User.cost" sCost f fd) (T : TU K mg C) (B2 : TB2 mg) : FnOk P w K mg base CX0 1 f fd ["self", "prices"] (spCost C) := by
  refine F.ok scCo (fun vs H Q E h => ?_) (fun cdv A outer s H vs Q E hr h => ?_)
  · obtain ⟨a, g, u, ps, rfl, _⟩ := h
    rfl
  · obtain ⟨a, g, u, ps, rfl, ⟨dx, ha⟩, hg, h1, h2, k⟩ := h
    refine ⟨_, pss_one (ps_ret (pe_callB (cr_sum rfl) (by rfl) B2.sum boot_sum (pa_cons (pe_slice sl_list (pv 1) (po_some (pe_fld (pv 0) rfl)) (po_some (pe_fld (pv 0) rfl))) pa_nil))), ?_⟩
    refine ⟨_, rfl, _, rfl, a, C, dx, _, _, rfl, ha, T.cl, T.nR, uF_r u, _, rfl, _, rfl, a, C, dx, _, _, rfl, ha, T.cl, T.nS, uF_s u, _, rfl, g, _, rfl, SqL.of hg, fun p hp => ?_⟩
    rw [cutN h1 h2]
    refine ⟨p, ((ps.take u.supply).drop u.returned).map cI, rfl, ?_, ?_⟩
    · rw [as_ints]
      exact SqL.of upd_same
    · rw [sum_cI]
      exact k _ (same_new hp)
theorem scVa : FnScope ["users", "user_set", "number"] ["users", "user_set"] (defScope sValue) := ⟨rfl, rfl, rfl, by decide +kernel, rfl, by decide +kernel, by decide +kernel⟩
theorem ok_value {f fM : Addr} {fd fdM : FuncData} (F : Fun K "value_of_set" "value_of_set" sValue f fd) (T : TU K mg C) (B : TB mg) (B2 : TB2 mg)
    (GM : FnOk P w K mg base CX0 1 fM fdM ["user_set", "user_count"] spMembers) (bM : Binds K fdM ["user_set", "user_count"] []) (tM : TD K mg "members_of" fM) : FnOk P w K mg base CX0 2 f fd ["users", "user_set"] (spValue C) := by
  refine F.ok scVa (fun vs H Q E h => ?_) (fun cdv A outer s H vs Q E hr h => ?_)
  · obtain ⟨l, as, us, set, rfl, _⟩ := h
    rfl
  · obtain ⟨l, as, us, set, rfl, U, h8, k⟩ := h
    refine ⟨_, pss_one (ps_ret (pe_callB (cr_sum rfl) (by rfl) B2.sum boot_sum (pa_cons (pe_lc (own := [("number", 2)]) (g := gName 2) (te := tFld K (tOp (rIxL K) (tVar 0) (tVar 2)) "value") rfl scVa.nd (pi_list (pe_call GM hr (by rfl) tM.g tM.k bM .nil pass0 (pa_cons (pv 1) (pa_cons (pe_callB call_lenV (by rfl) B.len PySem.boot_len (pa_cons (pv 0) pa_nil)) pa_nil))))
      (blkOk_by (N := ["users", "user_set", "number"]) (sc := defScope sValue) (own := [("number", 2)]) (by decide +kernel)) (fun _ _ _ _ _ => pg_name (i := 2) scVa.nd rfl (Or.inl rfl))
      (fun _ _ _ _ _ => pts_nil) (fun _ _ _ _ _ => pe_fld (pe_ix ix_list (pv 0) (pv 2) (fun _ _ => rfl)) rfl)) pa_nil))), ?_⟩
    refine ⟨_, rfl, rd_lenV (C := C) rfl U ⟨set, us.length, rfl, h8, fun H1 m s1 nm hm => ⟨m, rfl, ⟨_, SqL.of hm⟩, fun D hD => ?_⟩⟩⟩
    obtain ⟨ms, hms⟩ : ∃ ms, ms = mem set us.length := ⟨_, rfl⟩
    have hin : ∀ i ∈ ms, i < us.length := fun i hi => in_mem (by rw [hms] at hi; exact hi)
    have hml : ms.length ≤ 8 := by
      rw [hms]
      exact Nat.le_trans (mem_le _ _) h8
    rw [← hms] at hm k
    clear hms
    have U1 := U.same s1
    have sD : Same H1 (upd H1 D (.lst [])) := same_new hD
    refine lc_list (K := K) (a := m) (xs := ms.map vI) (fun i H' => H' D = some (.lst (((ms.take i).map fun j => (usr us j).value).map vI)) ∧ Same H1 H') ⟨upd_same, sD⟩ (fun i H' _ ⟨_, sm⟩ => sm.seq (SqL.of hm)) ?_ ?_
    · rintro i x H' hx ⟨hA, sm⟩
      obtain ⟨j, hj, rfl⟩ := map_get hx
      have hi : i < ms.length := (List.getElem?_eq_some_iff.mp hj).1
      have hju := hin j (List.mem_of_getElem? hj)
      have U2 := U1.same sm
      obtain ⟨a, ha, dx, hua⟩ := U2.get hju
      refine ⟨rfl, ?_⟩
      unfold tYes
      refine iteT ?_
      refine ⟨_, rfl, _, rfl, l, _, _, _, rfl, rfl, SqL.of U2.lst, at_of (j := j) rfl (by rw [List.getElem?_map, ha]; rfl), a, C, dx, _, _, rfl, hua, T.cl, T.nV, uF_v _, _, hA, small1000 (by rw [List.length_map, List.length_map, List.length_take]; omega), ?_, fun b o e => ?_⟩
      · rw [upd_same, take_snoc hj, List.map_append, List.map_append]
        rfl
      · rw [upd_ne (ne_of_none e hD)]
        exact sm _ _ e
    · rintro H' ⟨hA, sm⟩
      rw [List.length_map, List.take_length] at hA
      refine ⟨D, (ms.map fun j => (usr us j).value).map cI, rfl, ?_, ?_⟩
      · rw [as_ints]
        exact SqL.of hA
      · rw [sum_cI]
        have e : worth (pick us ms) = (ms.map fun j => (usr us j).value).sum := by
          unfold worth pick
          rw [List.map_map]
          rfl
        rw [e] at k
        exact k H' (s1.trans sm)
theorem scPS : FnScope ["users", "grade_count", "user_set", "chosen", "number"] ["users", "grade_count", "user_set"] (defScope sPeakSet) := ⟨rfl, rfl, rfl, by decide +kernel, rfl, by decide +kernel, by decide +kernel⟩
theorem ok_peakSet {f fM fP : Addr} {fd fdM fdP : FuncData} (F : Fun K "peak_load_of_set" "peak_load_of_set" sPeakSet f fd) (B : TB mg)
    (GM : FnOk P w K mg base CX0 1 fM fdM ["user_set", "user_count"] spMembers) (bM : Binds K fdM ["user_set", "user_count"] []) (tM : TD K mg "members_of" fM)
    (GP : FnOk P w K mg base CX0 3 fP fdP ["users", "grade_count"] (spPeak C)) (bP : Binds K fdP ["users", "grade_count"] []) (tP : TD K mg "peak_load_of" fP) : FnOk P w K mg base CX0 4 f fd ["users", "grade_count", "user_set"] (spPeakSet C) := by
  refine F.ok scPS (fun vs H Q E h => ?_) (fun cdv A outer s H vs Q E hr h => ?_)
  · obtain ⟨l, as, us, gc, set, rfl, _⟩ := h
    rfl
  · obtain ⟨l, as, us, gc, set, rfl, U, h8, g1, g12, k⟩ := h
    refine ⟨_, pss_cons (ps_setLc (i := 3) (own := [("number", 4)]) (g := gName 4) (te := tOp (rIxL K) (tVar 0) (tVar 4)) rfl scPS.nd rfl rfl (sw_true rfl rfl rfl (by decide +kernel)) (pi_list (pe_call GM (hr.mono (by decide)) (by rfl) tM.g tM.k bM .nil pass0 (pa_cons (pv 2) (pa_cons (pe_callB call_lenV (by rfl) B.len PySem.boot_len (pa_cons (pv 0) pa_nil)) pa_nil))))
      (blkOk_by (N := ["users", "grade_count", "user_set", "chosen", "number"]) (sc := defScope sPeakSet) (own := [("number", 4)]) (by decide +kernel)) (fun _ _ _ _ _ => pg_name (i := 4) scPS.nd rfl (Or.inl rfl))
      (fun _ _ _ _ _ => pts_nil) (fun _ _ _ _ _ => pe_ix ix_list (pv 0) (pv 4) (fun _ _ => rfl)))
      (pss_one (ps_ret (pe_call GP hr (by rfl) tP.g tP.k bP .nil pass0 (pa_cons (pv 3) (pa_cons (pv 1) pa_nil))))), ?_⟩
    refine ⟨_, rfl, rd_lenV (C := C) rfl U ⟨set, us.length, rfl, h8, fun H1 m s1 nm hm => ⟨m, rfl, ⟨_, SqL.of hm⟩, fun D hD => ?_⟩⟩⟩
    obtain ⟨ms, hms⟩ : ∃ ms, ms = mem set us.length := ⟨_, rfl⟩
    have hin : ∀ i ∈ ms, i < us.length := fun i hi => in_mem (by rw [hms] at hi; exact hi)
    have hml : ms.length ≤ 8 := by
      rw [hms]
      exact Nat.le_trans (mem_le _ _) h8
    rw [← hms] at hm k
    clear hms
    have U1 := U.same s1
    have sD : Same H1 (upd H1 D (.lst [])) := same_new hD
    refine lc_list (K := K) (a := m) (xs := ms.map vI) (fun i H' => H' D = some (.lst (((ms.take i).map fun j => as.getD j 0).map V.ref)) ∧ Same H1 H') ⟨upd_same, sD⟩ (fun i H' _ ⟨_, sm⟩ => sm.seq (SqL.of hm)) ?_ ?_
    · rintro i x H' hx ⟨hA, sm⟩
      obtain ⟨j, hj, rfl⟩ := map_get hx
      have hi : i < ms.length := (List.getElem?_eq_some_iff.mp hj).1
      have hju := hin j (List.mem_of_getElem? hj)
      have U2 := U1.same sm
      obtain ⟨a, ha, _⟩ := U2.get hju
      refine ⟨rfl, ?_⟩
      unfold tYes
      refine iteT ?_
      refine ⟨_, rfl, _, rfl, l, _, _, V.ref (as.getD j 0), rfl, rfl, SqL.of U2.lst, at_of (j := j) rfl (by rw [List.getElem?_map, List.getD_eq_getElem?_getD, ha]; rfl), _, hA, small1000 (by rw [List.length_map, List.length_map, List.length_take]; omega), ?_, fun b o e => ?_⟩
      · rw [upd_same, take_snoc hj, List.map_append, List.map_append]
        rfl
      · rw [upd_ne (ne_of_none e hD)]
        exact sm _ _ e
    · rintro H' ⟨hA, sm⟩
      rw [List.length_map, List.take_length] at hA
      have UD := U1.some_ sm hin hA
      have hp8 : (pick us ms).length ≤ 8 := by
        unfold pick
        rw [List.length_map]
        exact hml
      exact ⟨_, rfl, _, rfl, D, _, _, gc, rfl, UD, hp8, g1, g12, fun H2 s2 => k H2 (s1.trans (sm.trans s2))⟩
end
end HD

set_option Elab.async false
set_option linter.all false
set_option maxRecDepth 100000
set_option maxHeartbeats 2000000
namespace HD
open PySem PySem.Spec PyProof.Rows L2 LamX SL HC
open Kqk3 (User Network)
abbrev sBest : Stmt := top 11
abbrev sBestV : Stmt := top 12
abbrev nw (gc : Nat) (us : List User) : Network := ⟨gc, us⟩
theorem two_powI (m : Nat) : ((2 : Int) ^ m) = ((2 ^ m : Nat) : Int) := by
  rw [Int.natCast_pow]
  rfl
theorem pow_le {m : Nat} (h : m ≤ 8) : 2 ^ m ≤ 256 := Nat.pow_le_pow_right (by decide) h
def spBest (C : Addr) : Sp := fun vs H Q _ => ∃ (l : Addr) (as : List Addr) (us : List User) (gc k : Nat), vs = [.ref l, vI gc, vI k] ∧ UsersAt C H l as us ∧ us.length ≤ 8 ∧ 1 ≤ gc ∧ gc ≤ 12 ∧
  ∀ H' p, Same H H' → H p = none → H' p = some (.tup [vI (Kqk3.valueOf (nw gc us) (Kqk3.bestSet (nw gc us) k)), vI (Kqk3.bestSet (nw gc us) k)]) → Q (.ref p) H'
def spBestV (C : Addr) : Sp := fun vs H Q _ => ∃ (l : Addr) (as : List Addr) (us : List User) (gc k : Nat), vs = [.ref l, vI gc, vI k] ∧ UsersAt C H l as us ∧ us.length ≤ 8 ∧ 1 ≤ gc ∧ gc ≤ 12 ∧
  ∀ H', Same H H' → Q (vI (Kqk3.valueOf (nw gc us) (Kqk3.bestSet (nw gc us) k))) H'
section
variable {P : Program} {w : World} {K : PySem.W.Frag} {mg : Str → Option Value} {base : Heap} {C : Addr}
theorem scBe : FnScope ["users", "grade_count", "cascade_count", "best_value", "best_set", "user_set", "value"] ["users", "grade_count", "cascade_count"] (defScope sBest) := ⟨rfl, rfl, rfl, by decide +kernel, rfl, by decide +kernel, by decide +kernel⟩
theorem ok_best {f fV fS : Addr} {fd fdV fdS : FuncData} (F : Fun K "best_set_of" "best_set_of" sBest f fd) (B : TB mg)
    (GV : FnOk P w K mg base CX0 2 fV fdV ["users", "user_set"] (spValue C)) (bV : Binds K fdV ["users", "user_set"] []) (tV : TD K mg "value_of_set" fV)
    (GS : FnOk P w K mg base CX0 4 fS fdS ["users", "grade_count", "user_set"] (spPeakSet C)) (bS : Binds K fdS ["users", "grade_count", "user_set"] []) (tS : TD K mg "peak_load_of_set" fS) : FnOk P w K mg base CX0 5 f fd ["users", "grade_count", "cascade_count"] (spBest C) := by
  refine F.ok scBe (fun vs H Q E h => ?_) (fun cdv A outer s H vs Q E hr h => ?_)
  · obtain ⟨l, as, us, gc, k, rfl, _⟩ := h
    rfl
  · obtain ⟨l, as, us, gc, k, rfl, U, h8, g1, g12, kk⟩ := h
    refine ⟨_, pss_cons (ps_set (i := 3) scBe.nd rfl (Or.inl rfl) pe_int)
      (pss_cons (ps_set (i := 4) scBe.nd rfl (Or.inl rfl) pe_int)
      (pss_cons (ps_for PassesOwn.never rfl (pi_range1 (by rfl) B.range (pa_cons (pe_op op_oneShl pe_int (pe_callB call_lenV (by rfl) B.len PySem.boot_len (pa_cons (pv 0) pa_nil))) pa_nil)) (pg_name (i := 5) scBe.nd rfl (Or.inl rfl))
        (pss_cons (ps_set (i := 6) scBe.nd rfl (Or.inl rfl) (pe_call GV (hr.mono (by decide)) (by rfl) tV.g tV.k bV .nil pass0 (pa_cons (pv 0) (pa_cons (pv 5) pa_nil))))
        (pss_one (ps_if (PW.pt (pw_and (pt_cmpR op_gt (pv 6) (pv 3) (nomark _)) (pw_and1 (pt_cmpR op_le (pe_call GS hr (by rfl) tS.g tS.k bS .nil pass0 (pa_cons (pv 0) (pa_cons (pv 1) (pa_cons (pv 5) pa_nil)))) (pv 2) (nomark _)))))
          (pss_cons (ps_set (i := 3) scBe.nd rfl (Or.inl rfl) (pv 6)) (pss_one (ps_set (i := 4) scBe.nd rfl (Or.inl rfl) (pv 5)))) pss_nil))))
      (pss_one (ps_ret (pe_tup (pa_cons (pv 3) (pa_cons (pv 4) pa_nil))))))), ?_⟩
    have hpw := pow_le h8
    have en : ((2 : Int) ^ us.length).toNat = 2 ^ us.length := by
      rw [two_powI]
      exact Int.toNat_natCast _
    obtain ⟨b1, b2⟩ : -(2 ^ 62) ≤ (2 : Int) ^ us.length ∧ (2 : Int) ^ us.length < 2 ^ 62 := by
      rw [two_powI us.length]
      generalize 2 ^ us.length = m at hpw
      omega
    refine rd_lenV (C := C) rfl U ⟨us.length, rfl, rfl, by omega, (2 : Int) ^ us.length, rfl, b1, b2, ?_⟩
    refine for_range (lo := 0) (n := ((2 : Int) ^ us.length).toNat) (fun i σ' H' => ∃ a b, σ' = [some (.ref l), some (vI gc), some (vI k), some (vI (Kqk3.valueOf (nw gc us) (bestTo (nw gc us) k i))), some (vI (bestTo (nw gc us) k i)), a, b] ∧ Same H H')
      ⟨_, _, by rw [bestTo_zero, value_zero]; rfl, Same.refl H⟩ ?_ ?_
    · rintro i σ' H' hi ⟨a, b, rfl, sm⟩
      have e0 : (0 : Int) + (i : Int) = (i : Int) := by omega
      have hv : Kqk3.valueOf (nw gc us) i = worth (pick us (mem i us.length)) := value_is (nw gc us) i
      have hp : Kqk3.peakLoad (nw gc us) i = peakOf (pick us (mem i us.length)) gc := peak_is (nw gc us) i
      have hb := bestTo_succ (nw gc us) k i
      refine ⟨_, rfl, _, rfl, l, as, us, i, congrArg (fun z : Int => [V.ref l, V.int z]) e0, U.same sm, h8, fun H1 s1 => ?_⟩
      rw [← hv]
      refine ⟨_, rfl, _, rfl, _, _, rfl, rfl, _, rfl, ?_⟩
      rw [dec_lt]
      by_cases h1 : Kqk3.valueOf (nw gc us) (bestTo (nw gc us) k i) < Kqk3.valueOf (nw gc us) i
      · rw [decide_eq_true h1]
        refine iteT ⟨_, rfl, _, rfl, _, rfl, l, as, us, gc, i, congrArg (fun z : Int => [V.ref l, vI gc, V.int z]) e0, U.same (sm.trans s1), h8, g1, g12, fun H2 s2 => ?_⟩
        rw [← hp]
        refine ⟨_, rfl, _, _, rfl, rfl, _, rfl, ?_⟩
        rw [dec_le]
        by_cases h2 : Kqk3.peakLoad (nw gc us) i ≤ k
        · rw [decide_eq_true h2]
          rw [if_pos ⟨h2, h1⟩] at hb
          refine iteT ⟨_, rfl, _, rfl, some (V.int (0 + (i : Int))), some (vI (Kqk3.valueOf (nw gc us) i)), ?_, sm.trans (s1.trans s2)⟩
          rw [hb]
          exact congrArg (fun z : Int => [some (V.ref l), some (vI gc), some (vI k), some (vI (Kqk3.valueOf (nw gc us) i)), some (V.int z), some (V.int (0 + (i : Int))), some (vI (Kqk3.valueOf (nw gc us) i))]) e0
        · rw [decide_eq_false h2]
          rw [if_neg (fun z => h2 z.1)] at hb
          rw [hb]
          exact iteF ⟨_, _, rfl, sm.trans (s1.trans s2)⟩
      · rw [decide_eq_false h1]
        rw [if_neg (fun z => h1 z.2)] at hb
        rw [hb]
        exact iteF (iteF ⟨_, _, rfl, sm.trans s1⟩)
    · rintro σ' H' ⟨a, b, e, sm⟩
      rw [en, ← best_is] at e
      subst e
      refine ⟨_, rfl, _, rfl, (by show 2 ≤ sizeLine; decide), fun p hp => ?_⟩
      exact kk _ p (sm.trans (same_new hp)) (sm.free hp) upd_same
theorem scBv : FnScope ["users", "grade_count", "cascade_count"] ["users", "grade_count", "cascade_count"] (defScope sBestV) := ⟨rfl, rfl, rfl, by decide +kernel, rfl, by decide +kernel, by decide +kernel⟩
theorem ok_bestV {f fB : Addr} {fd fdB : FuncData} (F : Fun K "best_value_of" "best_value_of" sBestV f fd)
    (GB : FnOk P w K mg base CX0 5 fB fdB ["users", "grade_count", "cascade_count"] (spBest C)) (bB : Binds K fdB ["users", "grade_count", "cascade_count"] []) (tB : TD K mg "best_set_of" fB) : FnOk P w K mg base CX0 6 f fd ["users", "grade_count", "cascade_count"] (spBestV C) := by
  refine F.ok scBv (fun vs H Q E h => ?_) (fun cdv A outer s H vs Q E hr h => ?_)
  · obtain ⟨l, as, us, gc, k, rfl, _⟩ := h
    rfl
  · obtain ⟨l, as, us, gc, k, rfl, U, h8, g1, g12, kk⟩ := h
    refine ⟨_, pss_one (ps_ret (pe_ix ix_tup (pe_call GB hr (by rfl) tB.g tB.k bB .nil pass0 (pa_cons (pv 0) (pa_cons (pv 1) (pa_cons (pv 2) pa_nil)))) pe_int (fun _ _ => rfl))), ?_⟩
    exact ⟨_, rfl, _, rfl, _, rfl, l, as, us, gc, k, rfl, U, h8, g1, g12, fun H' p s _ e => ⟨p, _, _, _, rfl, rfl, SqT.of e, rfl, kk H' s⟩⟩
end
end HD

set_option Elab.async false
set_option linter.all false
set_option maxRecDepth 100000
set_option maxHeartbeats 2000000
namespace HD
open PySem PySem.Spec PyProof.Rows L2 LamX SL HC
open Kqk3 (User Network)
abbrev sDual : Stmt := top 13
def spDual (C : Addr) : Sp := fun vs H Q _ => ∃ (l g : Addr) (as : List Addr) (us : List User) (k : Nat) (ps : List Nat), vs = [.ref l, vI k, .ref g] ∧ UsersAt C H l as us ∧ H g = some (.lst (ps.map vI)) ∧ k ≤ 8 ∧ (∀ u ∈ us, u.returned ≤ u.supply ∧ u.supply ≤ ps.length) ∧
  ∀ H', Same H H' → Q (vI (dualOf us k ps)) H'
section
variable {P : Program} {w : World} {K : PySem.W.Frag} {mg : Str → Option Value} {base : Heap} {C : Addr}
theorem scDu : FnScope ["users", "cascade_count", "prices", "bound", "user"] ["users", "cascade_count", "prices"] (defScope sDual) := ⟨rfl, rfl, rfl, by decide +kernel, rfl, by decide +kernel, by decide +kernel⟩
theorem ok_dual {f fC : Addr} {fd fdC : FuncData} (F : Fun K "dual_bound_of" "dual_bound_of" sDual f fd) (T : TU K mg C) (B : TB mg) (B2 : TB2 mg)
    (GC : FnOk P w K mg base CX0 1 fC fdC ["self", "prices"] (spCost C)) (bC : Binds K fdC ["self", "prices"] []) (mC : Meth K C "cost" fC) : FnOk P w K mg base CX0 2 f fd ["users", "cascade_count", "prices"] (spDual C) := by
  refine F.ok scDu (fun vs H Q E h => ?_) (fun cdv A outer s H vs Q E hr h => ?_)
  · obtain ⟨l, g, as, us, k, ps, rfl, _⟩ := h
    rfl
  · obtain ⟨l, g, as, us, k, ps, rfl, U, hg, hk, hb, kk⟩ := h
    refine ⟨_, pss_cons (ps_set (i := 3) scDu.nd rfl (Or.inl rfl) (pe_op op_mul (pv 1) (pe_callB (cr_sum rfl) (by rfl) B2.sum boot_sum (pa_cons (pv 2) pa_nil))))
      (pss_cons (ps_for PassesOwn.never rfl (pi_list (pv 0)) (pg_name (i := 4) scDu.nd rfl (Or.inl rfl))
        (pss_one (ps_set (i := 3) scDu.nd rfl (Or.inl rfl) (pe_op op_add (pv 3) (pe_callB (call_max2 rfl) (by rfl) B.max boot_max (pa_cons pe_int (pa_cons (pe_op op_sub (pe_fld (pv 4) rfl) (pe_meth (pv 4) T.cl mC GC hr bC .nil pass0 (pa_cons (pv 2) pa_nil))) pa_nil)))))))
      (pss_one (ps_ret (pv 3)))), ?_⟩
    refine ⟨_, rfl, _, rfl, g, ps.map cI, rfl, (by rw [as_ints]; exact SqL.of hg), _, _, rfl, rfl, .inl ⟨by omega, by omega⟩, ?_⟩
    have e0 : (k : Int) * (ps.map cI).sum = ((k * ps.sum + (((us.take 0).map fun u => u.value - costOf u ps)).sum : Nat) : Int) := by
      rw [sum_cI, List.take_zero]
      show _ = ((k * ps.sum + 0 : Nat) : Int)
      rw [Nat.add_zero, Int.natCast_mul]
    refine ⟨_, rfl, l, rfl, ⟨_, SqL.of U.lst⟩, for_list (K := K) (a := l) (xs := as.map V.ref) (fun i σ' H' => ∃ u, σ' = [some (.ref l), some (vI k), some (.ref g), some (vI (k * ps.sum + (((us.take i).map fun u => u.value - costOf u ps)).sum)), u] ∧ Same H H')
      ⟨_, congrArg (fun z : Int => [some (V.ref l), some (vI k), some (V.ref g), some (V.int z), none]) e0, Same.refl H⟩ (fun i σ' H' _ ⟨_, _, sm⟩ => sm.seq (SqL.of U.lst)) ?_ ?_⟩
    · rintro i x σ' H' hx ⟨u0, rfl, sm⟩
      obtain ⟨a, ha, rfl⟩ := map_get hx
      obtain ⟨u, hu, dx, hua0⟩ := U.at_ i a ha
      have hua := sm _ _ hua0
      obtain ⟨b1, b2⟩ := hb u (List.mem_of_getElem? hu)
      have hsn : ((us.take (i + 1)).map fun u => u.value - costOf u ps).sum = ((us.take i).map fun u => u.value - costOf u ps).sum + (u.value - costOf u ps) := by
        rw [take_snoc hu, List.map_append, List.sum_append]
        simp
      refine ⟨_, rfl, _, rfl, a, C, dx, _, _, rfl, hua, T.cl, T.nV, uF_v u, _, rfl, a, dx, _, rfl, hua, uF_none (by decide +kernel) (by decide +kernel) (by decide +kernel) u, _, rfl, a, g, u, ps, rfl, ⟨dx, hua⟩, sm _ _ hg, b1, b2, fun H4 s4 => ?_⟩
      refine ⟨_, _, rfl, rfl, _, _, rfl, _, _, rfl, rfl, some (V.ref a), ?_, sm.trans s4⟩
      obtain ⟨T0, hT0⟩ : ∃ t, t = ((us.take i).map fun u => u.value - costOf u ps).sum := ⟨_, rfl⟩
      rw [hsn, ← hT0]
      obtain ⟨cc, hcc⟩ : ∃ c, c = costOf u ps := ⟨_, rfl⟩
      rw [← hcc]
      have e : ((k * ps.sum + T0 : Nat) : Int) + (if (u.value : Int) - (cc : Int) > 0 then (u.value : Int) - (cc : Int) else 0) = ((k * ps.sum + (T0 + (u.value - cc)) : Nat) : Int) := by
        generalize k * ps.sum = kp
        split <;> omega
      exact congrArg (fun z : Int => [some (V.ref l), some (vI k), some (V.ref g), some (V.int z), some (V.ref a)]) e
    · rintro σ' H' ⟨u0, rfl, sm⟩
      rw [List.length_map, U.len, List.take_length]
      exact ⟨_, rfl, kk H' sm⟩
end
end HD

set_option Elab.async false
set_option linter.all false
set_option maxRecDepth 100000
set_option maxHeartbeats 2000000
namespace HD
open PySem PySem.Spec PyProof.Rows L2 LamX SL HC
open Kqk3 (User Network Request)
/-! ### the network in the heap -/
abbrev S := Option Network
def gcOf (s : S) : Nat := match s with
  | none => 0
  | some n => n.gradeCount
def usOf (s : S) : List User := match s with
  | none => []
  | some n => n.users
def nF (gc : Nat) (l : Addr) : List (Str × V) := [("grade_count", vI gc), ("users", .ref l)]
theorem nF_g (gc : Nat) (l : Addr) : (nF gc l).lookup ("grade_count" : Str) = some (vI gc) := lk_here
theorem nF_u (gc : Nat) (l : Addr) : (nF gc l).lookup ("users" : Str) = some (.ref l) := (lk_past (by decide +kernel)).trans lk_here
theorem nF_none {m : Str} (h1 : (m == ("grade_count" : Str)) = false) (h2 : (m == ("users" : Str)) = false) (gc : Nat) (l : Addr) : (nF gc l).lookup m = none := (lk_past h1).trans ((lk_past h2).trans rfl)
theorem nF_new (gc : Nat) (l : Addr) : putF "users" (.ref l) (putF "grade_count" (vI gc) []) = nF gc l := by
  have e1 : putF "grade_count" (vI gc) [] = [(("grade_count" : Str), vI gc)] := rfl
  rw [e1, put_past (by decide +kernel)]
  rfl
theorem nF_putg (gc g : Nat) (l : Addr) : putF "grade_count" (vI g) (nF gc l) = nF g l := put_here
theorem nF_putu (gc : Nat) (l q : Addr) : putF "users" (.ref q) (nF gc l) = nF gc q := (put_past (by decide +kernel)).trans (congrArg _ put_here)
/-- the network object at a: its users' list at l, the users at as -/
structure NetAt (N C : Addr) (H : Hp) (a l : Addr) (as : List Addr) (s : S) : Prop where
  obj : ∃ dx, H a = some (.ins N dx (nF (gcOf s) l))
  us : UsersAt C H l as (usOf s)
  nd : as.Nodup
/-- all but the network's own objects and the tables stays -/
def Kept (H H' : Hp) (a l : Addr) (as : List Addr) : Prop := ∀ b o, H b = some o → b ≠ a → b ≠ l → b ∉ as → (∀ ps, o ≠ .tbl ps) → H' b = some o
/-- what the network has now it had, or it is new -/
def News (H : Hp) (l : Addr) (as : List Addr) (l' : Addr) (as' : List Addr) : Prop := ∀ b, (b = l' ∨ b ∈ as') → (b = l ∨ b ∈ as) ∨ H b = none
/-- p is new: nothing but a table may have stood there -/
def Fresh (H : Hp) (p : Addr) : Prop := ∀ o, H p = some o → ∃ ps, o = .tbl ps
theorem Fresh.of {H : Hp} {p : Addr} (h : H p = none) : Fresh H p := fun o e => by
  rw [h] at e
  cases e
theorem Fresh.ext {H H1 : Hp} {p : Addr} (e : ExtN H H1) (h : H1 p = none) : Fresh H p := fun o q => by
  cases o with
  | tbl ps => exact ⟨ps, rfl⟩
  | _ =>
    rw [e p _ q (fun ps z => nomatch z)] at h
    cases h
theorem News.refl (H : Hp) (l : Addr) (as : List Addr) : News H l as l as := fun _ h => .inl h
theorem Kept.of {H H' : Hp} {a l : Addr} {as : List Addr} (e : ExtN H H') : Kept H H' a l as := fun b o h _ _ _ n => e b o h n
theorem NetAt.extN {N C : Addr} {H H' : Hp} {a l : Addr} {as : List Addr} {s : S} (e : ExtN H H') (h : NetAt N C H a l as s) : NetAt N C H' a l as s :=
  ⟨let ⟨dx, o⟩ := h.obj; ⟨dx, e _ _ o (fun ps z => nomatch z)⟩, h.us.extN e, h.nd⟩
theorem NetAt.ne {N C : Addr} {H : Hp} {a l : Addr} {as : List Addr} {s : S} (h : NetAt N C H a l as s) : a ≠ l := by
  obtain ⟨dx, o⟩ := h.obj
  exact ne_of o h.us.lst (by intro z; cases z)
theorem UsersAt.mem {C : Addr} {H : Hp} {l : Addr} {as : List Addr} {us : List User} (B : UsersAt C H l as us) {a : Addr} (h : a ∈ as) : ∃ u, UserAt C H a u := by
  obtain ⟨j, hj⟩ := List.getElem?_of_mem h
  obtain ⟨u, _, h2⟩ := B.at_ j a hj
  exact ⟨u, h2⟩
theorem UsersAt.ap {C : Addr} {H : Hp} {l : Addr} {as : List Addr} {us : List User} (B : UsersAt C H l as us) : l ∉ as := fun h => by
  obtain ⟨u, dx, e⟩ := B.mem h
  rw [B.lst] at e
  cases e
/-- an answer's numbers -/
abbrev ans (r : Kqk3.Result) : List Int := Kqk3Neutral.fields r
/-- what a method of the network promises, that takes whole numbers: it does what the document's step does -/
def spM (N C Pt : Addr) (ar : Nat) (mk : List Nat → Request) : Sp := fun vs H Q _ => ∃ (a l : Addr) (as : List Addr) (n : Network) (xs : List Nat), vs = .ref a :: xs.map vI ∧ xs.length = ar ∧ NetAt N C H a l as (some n) ∧ Valid n ∧ Tabs (TT Pt) H ∧
  ∀ H' p l' as', NetAt N C H' a l' as' (Kqk3.step (some n) (mk xs)).1 → Tabs (TT Pt) H' → Kept H H' a l as → News H l as l' as' → Fresh H p → H' p = some (.lst ((ans (Kqk3.step (some n) (mk xs)).2).map V.int)) → Q (.ref p) H'
def spCreate (N C Pt : Addr) : Sp := fun vs H Q _ => ∃ (a l : Addr) (as : List Addr) (s : S) (g : Nat), vs = [.ref a, vI g] ∧ NetAt N C H a l as s ∧ Tabs (TT Pt) H ∧
  ∀ H' p l' as', NetAt N C H' a l' as' (Kqk3.step s (.create g)).1 → Tabs (TT Pt) H' → Kept H H' a l as → News H l as l' as' → Fresh H p → H' p = some (.lst ((ans (Kqk3.step s (.create g)).2).map V.int)) → Q (.ref p) H'
def spExists (N C : Addr) : Sp := fun vs H Q _ => ∃ (a l : Addr) (as : List Addr) (s : S), vs = [.ref a] ∧ NetAt N C H a l as s ∧ ValidS s ∧ Q (.bl s.isSome) H
def spNInit (N C : Addr) : Sp := fun vs H Q _ => ∃ (p dx : Addr), vs = [.ref p] ∧ H p = some (.ins N dx []) ∧ ∀ (H' : Hp) l, NetAt N C H' p l [] none → H l = none → (∀ b o, H b = some o → b ≠ p → H' b = some o) → Q .non H'
/-- a module's name that stands for a whole number -/
theorem pcon {X : Cx} {x : Str} {pos : Pos} (i : Int) (hg : Gl X x) (hm : ∃ t, X.mg x = some (.int i t)) (hd : (x == ("__debug__" : Str)) = false := by decide) : PE X (.Name x pos) (tC (.int i)) := let ⟨t, e⟩ := hm; pe_glob hg e ⟨t, rfl⟩ hd
/-- the class Network: its attributes, the constants -/
structure TN (K : PySem.W.Frag) (mg : Str → Option Value) (N : Addr) : Prop where
  cl : Cls K N
  nG : NoAttr K N "grade_count"
  nU : NoAttr K N "users"
  gN : mg "Network" = some (.ref N)
  cNN : ∃ t, mg "NO_NETWORK" = some (.int (-11) t)
  cNU : ∃ t, mg "NO_SUCH_USER" = some (.int (-2) t)
  cOR : ∃ t, mg "OUT_OF_RANGE" = some (.int (-22) t)
  cTM : ∃ t, mg "TOO_MANY_USERS" = some (.int (-28) t)
  cMG : ∃ t, mg "MOST_GRADES" = some (.int 12 t)
  cMU : ∃ t, mg "MOST_USERS" = some (.int 8 t)
  cMV : ∃ t, mg "MOST_VALUE" = some (.int 100 t)
abbrev sNet (i : Nat) : Stmt := inClass (top 24) i
abbrev sNInit : Stmt := sNet 0
abbrev sExists : Stmt := sNet 1
abbrev sCreate : Stmt := sNet 5
abbrev sAdd : Stmt := sNet 6
abbrev sRemove : Stmt := sNet 7
abbrev sList : Stmt := sNet 8
abbrev sSet : Stmt := sNet 9
section
variable {P : Program} {w : World} {K : PySem.W.Frag} {mg : Str → Option Value} {base : Heap} {C N Pt : Addr}
theorem scNI : FnScope ["self"] ["self"] (defScope sNInit) := ⟨rfl, rfl, rfl, by decide +kernel, rfl, by decide +kernel, by decide +kernel⟩
theorem ok_ninit {f : Addr} {fd : FuncData} (F : Fun K "__init__" "Network.__init__" sNInit f fd) (T : TN K mg N) : FnOk P w K mg base CX0 1 f fd ["self"] (spNInit N C) := by
  refine F.ok scNI (fun vs H Q E h => ?_) (fun cdv A outer s H vs Q E hr h => ?_)
  · obtain ⟨p, dx, rfl, _⟩ := h
    rfl
  · obtain ⟨p, dx, rfl, hp, k⟩ := h
    refine ⟨_, pss_cons (ps_fld (pv 0) pe_int rfl) (pss_one (ps_fld (pv 0) (pe_lst pa_nil) rfl)), ?_⟩
    refine ⟨_, rfl, p, N, dx, [], rfl, hp, T.cl, T.nG, (by show 0 < 1000; decide), ?_⟩
    refine ⟨Nat.zero_le _, fun l hl => ?_⟩
    have np : p ≠ l := ne_of_none upd_same hl
    refine ⟨_, rfl, p, N, dx, _, rfl, (by rw [upd_ne np]; exact upd_same), T.cl, T.nU, (by show 1 < 1000; decide), ?_⟩
    refine k _ l ⟨⟨dx, Eq.trans upd_same (congrArg (fun q => some (HO.ins N dx q)) (nF_new 0 l))⟩, ⟨by rw [upd_ne np.symm, upd_same]; rfl, rfl, fun j a h => by simp at h⟩, List.nodup_nil⟩ ?_ fun b o e hb => ?_
    · cases q : H l with
      | none => rfl
      | some o =>
        rw [upd_ne np.symm, q] at hl
        cases hl
    · rw [upd_ne hb, upd_ne (ne_of_none (by rw [upd_ne hb]; exact e) hl), upd_ne hb]
      exact e
theorem scEx : FnScope ["self"] ["self"] (defScope sExists) := ⟨rfl, rfl, rfl, by decide +kernel, rfl, by decide +kernel, by decide +kernel⟩
theorem ok_exists {f : Addr} {fd : FuncData} (F : Fun K "exists" "Network.exists" sExists f fd) (T : TN K mg N) : FnOk P w K mg base CX0 1 f fd ["self"] (spExists N C) := by
  refine F.ok scEx (fun vs H Q E h => ?_) (fun cdv A outer s H vs Q E hr h => ?_)
  · obtain ⟨a, l, as, s, rfl, _⟩ := h
    rfl
  · obtain ⟨a, l, as, s, rfl, ⟨⟨dx, ho⟩, U, nd⟩, hv, k⟩ := h
    refine ⟨_, pss_one (ps_ret (pe_cmpR op_gt (pe_fld (pv 0) rfl) pe_int (nomark _))), ?_⟩
    refine ⟨_, rfl, a, N, dx, _, _, rfl, ho, T.cl, T.nG, nF_g _ _, _, _, rfl, rfl, ?_⟩
    have e : decide ((0 : Int) < (gcOf s : Int)) = s.isSome := by
      cases s with
      | none => exact decide_eq_false (by show ¬ (0 : Int) < ((0 : Nat) : Int); omega)
      | some n =>
        have z := (hv n rfl).g1
        exact decide_eq_true (by show (0 : Int) < (n.gradeCount : Int); omega)
    show Q (.bl (decide ((0 : Int) < (gcOf s : Int)))) H
    rw [e]
    exact k
theorem scCr : FnScope ["self", "grade_count"] ["self", "grade_count"] (defScope sCreate) := ⟨rfl, rfl, rfl, by decide +kernel, rfl, by decide +kernel, by decide +kernel⟩
/-- the tables stay where lists and instances alone change -/
theorem tabs_of {T : List (Addr × Str)} {H H' : Hp} (e : ∀ b o, H b = some o → (∀ C dx fs, o ≠ .ins C dx fs) → (∀ xs, o ≠ .lst xs) → H' b = some o) (t : Tabs T H) : Tabs T H' := fun pr hpr => by
  obtain ⟨ps, t1, t2, t3⟩ := t pr hpr
  refine ⟨ps, e _ _ t1 (fun _ _ _ z => nomatch z) (fun _ z => nomatch z), t2, fun po cv hc => ?_⟩
  obtain ⟨c0, e1, e2⟩ := t3 po cv hc
  exact ⟨c0, e1, e _ _ e2 (fun _ _ _ z => by unfold CodeO at z; cases z) fun _ z => by unfold CodeO at z; cases z⟩
/-- a refusal: a new list of the code alone, nothing changed -/
theorem said {H : Hp} {Q : VK} {T : List (Addr × Str)} {N C a l : Addr} {as : List Addr} {s : S} {z : Int} {H1 : Hp} (e : Same H H1) (Nt : NetAt N C H a l as s) (hT : Tabs T H)
    (k : ∀ H' p l' as', NetAt N C H' a l' as' s → Tabs T H' → Kept H H' a l as → News H l as l' as' → Fresh H p → H' p = some (.lst [.int z]) → Q (.ref p) H') (p : Addr) (hp : H1 p = none) : Q (.ref p) (upd H1 p (.lst [.int z])) := by
  have e2 : Same H (upd H1 p (.lst [.int z])) := fun b o h => by
    rw [upd_ne (ne_of_none (e _ _ h) hp)]
    exact e _ _ h
  exact k _ p l as (Nt.extN (ExtN.of e2)) (hT.ext e2) (Kept.of (ExtN.of e2)) (News.refl _ _ _) (Fresh.of (e.free hp)) upd_same
theorem ok_create {f : Addr} {fd : FuncData} (F : Fun K "create" "Network.create" sCreate f fd) (T : TN K mg N) : FnOk P w K mg base CX0 1 f fd ["self", "grade_count"] (spCreate N C Pt) := by
  refine F.ok scCr (fun vs H Q E h => ?_) (fun cdv A outer s H vs Q E hr h => ?_)
  · obtain ⟨a, l, as, s, g, rfl, _⟩ := h
    rfl
  · obtain ⟨a, l, as, s, g, rfl, Nt, hT, k⟩ := h
    refine ⟨_, pss_cons (ps_if (PW.pt (pw_or (pt_cmpR op_lt (pv 1) pe_int (nomark _)) (pw_or1 (pt_cmpR op_gt (pv 1) (pcon 12 (by rfl) T.cMG) (nomark _))))) (pss_one (ps_ret (pe_lst (pa_cons (pcon (-22) (by rfl) T.cOR) pa_nil)))) pss_nil)
      (pss_cons (ps_fld (pv 0) (pv 1) rfl) (pss_cons (ps_fld (pv 0) (pe_lst pa_nil) rfl) (pss_one (ps_ret (pe_lst (pa_cons pe_int pa_nil)))))), ?_⟩
    have hst : Kqk3.step s (.create g) = if g < 1 ∨ Kqk3.maxGrades < g then (s, .value (-22)) else (some ⟨g, []⟩, .value 0) := by
      cases s <;> rfl
    refine ⟨_, rfl, _, _, rfl, rfl, _, rfl, ?_⟩
    have d1 : decide ((g : Int) < 1) = decide (g < 1) := dec_lt g 1
    have d2 : decide ((12 : Int) < (g : Int)) = decide (12 < g) := dec_lt 12 g
    rw [d1]
    by_cases h1 : g < 1
    · rw [if_pos (.inl h1)] at hst
      rw [hst] at k
      rw [decide_eq_true h1]
      exact iteT (iteT ⟨(by show 1 ≤ sizeLine; decide), said (Same.refl H) Nt hT k⟩)
    · rw [decide_eq_false h1]
      refine iteF ⟨_, rfl, _, _, rfl, rfl, _, rfl, ?_⟩
      rw [d2]
      by_cases h2 : 12 < g
      · rw [if_pos (.inr h2)] at hst
        rw [hst] at k
        rw [decide_eq_true h2]
        exact iteT ⟨(by show 1 ≤ sizeLine; decide), said (Same.refl H) Nt hT k⟩
      · rw [if_neg (fun z => z.elim h1 h2)] at hst
        rw [hst] at k
        rw [decide_eq_false h2]
        obtain ⟨⟨dx, ho⟩, U, nd⟩ := id Nt
        refine iteF ⟨_, rfl, _, rfl, a, N, dx, _, rfl, ho, T.cl, T.nG, (by show 2 < 1000; decide), ?_⟩
        rw [nF_putg]
        refine ⟨Nat.zero_le _, fun q hq => ?_⟩
        have naq : a ≠ q := ne_of_none upd_same hq
        have nHq : H q = none := by rw [upd_ne naq.symm] at hq; exact hq
        refine ⟨_, rfl, a, N, dx, _, rfl, (by rw [upd_ne naq]; exact upd_same), T.cl, T.nU, (by show 2 < 1000; decide), ?_⟩
        rw [nF_putu]
        refine ⟨(by show 1 ≤ sizeLine; decide), fun p hp => ?_⟩
        have npa : p ≠ a := fun z => by rw [z, upd_same] at hp; cases hp
        rw [upd_ne npa] at hp
        have npq : p ≠ q := fun z => by rw [z, upd_same] at hp; cases hp
        rw [upd_ne npq, upd_ne npa] at hp
        have kp : ∀ b o, H b = some o → b ≠ a → upd (upd (upd (upd H a (.ins N dx (nF g l))) q (.lst [])) a (.ins N dx (nF g q))) p (.lst [.int 0]) b = some o := fun b o h n => by
          rw [upd_ne (ne_of_none h hp), upd_ne n, upd_ne (ne_of_none h nHq), upd_ne n]
          exact h
        refine k _ p q [] ⟨⟨dx, by rw [upd_ne npa.symm]; exact upd_same⟩, ⟨by rw [upd_ne npq.symm, upd_ne naq.symm, upd_same]; rfl, rfl, fun j a h => by simp at h⟩, List.nodup_nil⟩ ?_ (fun b o h n1 _ _ _ => kp b o h n1) (fun b hb => ?_) (Fresh.of hp) upd_same
        · exact tabs_of (fun b o h n _ => kp b o h fun z => by rw [z, ho] at h; cases h; exact n _ _ _ rfl) hT
        · rcases hb with z | z
          · rw [z]
            exact .inr nHq
          · cases z
end
end HD

set_option Elab.async false
set_option linter.all false
set_option maxRecDepth 100000
set_option maxHeartbeats 2000000
namespace HD
open PySem PySem.Spec PyProof.Rows L2 LamX SL HC
open Kqk3 (User Network Request)
theorem rd_users {K : PySem.W.Frag} {mg : Str → Option Value} {N : Addr} (T : TN K mg N) {σ : L2.St} {H : Hp} {Q : VK} {a dx l : Addr} {gc : Nat} (h0 : σ[0]? = some (some (.ref a))) (ho : H a = some (.ins N dx (nF gc l))) (q : Q (.ref l) H) : tFld K (tVar 0) "users" σ H Q :=
  ⟨_, h0, a, N, dx, _, _, rfl, ho, T.cl, T.nU, nF_u _ _, q⟩
theorem rd_gc {K : PySem.W.Frag} {mg : Str → Option Value} {N : Addr} (T : TN K mg N) {σ : L2.St} {H : Hp} {Q : VK} {a dx l : Addr} {gc : Nat} (h0 : σ[0]? = some (some (.ref a))) (ho : H a = some (.ins N dx (nF gc l))) (q : Q (vI gc) H) : tFld K (tVar 0) "grade_count" σ H Q :=
  ⟨_, h0, a, N, dx, _, _, rfl, ho, T.cl, T.nG, nF_g _ _, q⟩
/-- len(self.users) -/
def rLen (K : PySem.W.Frag) : List V → Hp → VK → Prop := fun xs H Q => ∃ p ys, xs = [.ref p] ∧ (SqL K H p ys ∨ SqT K H p ys) ∧ Q (.int ys.length) H
theorem rd_len {K : PySem.W.Frag} {mg : Str → Option Value} {N C : Addr} (T : TN K mg N) {σ : L2.St} {H : Hp} {Q : VK} {a dx l : Addr} {gc : Nat} {as : List Addr} {us : List User} (h0 : σ[0]? = some (some (.ref a))) (ho : H a = some (.ins N dx (nF gc l))) (U : UsersAt C H l as us) (q : Q (vI us.length) H) :
    tCB (rLen K) (tCons (tFld K (tVar 0) "users") tNil) σ H Q := by
  refine rd_users T h0 ho ⟨l, _, rfl, .inl (SqL.of U.lst), ?_⟩
  rw [List.length_map, U.len]
  exact q
theorem call_len_r {X : Cx} : CallR X (.builtin "len") (rLen X.K) := call_len_seq
abbrev sLoadM : Stmt := sNet 10
section
variable {P : Program} {w : World} {K : PySem.W.Frag} {mg : Str → Option Value} {base : Heap} {C N Pt : Addr}
theorem one_le : 1 ≤ sizeLine := by decide
/-- a method that changes nothing: a new list of the answer -/
theorem same_end {H H1 : Hp} {Q : VK} {a l : Addr} {as : List Addr} {n : Network} {q : Request} {zs : List Int} (hq : Kqk3.step (some n) q = (some n, (Kqk3.step (some n) q).2)) (hz : ans (Kqk3.step (some n) q).2 = zs) (e : Same H H1) (Nt : NetAt N C H a l as (some n)) (hT : Tabs (TT Pt) H)
    (k : ∀ H' p l' as', NetAt N C H' a l' as' (Kqk3.step (some n) q).1 → Tabs (TT Pt) H' → Kept H H' a l as → News H l as l' as' → Fresh H p → H' p = some (.lst ((ans (Kqk3.step (some n) q).2).map V.int)) → Q (.ref p) H') (p : Addr) (hp : H1 p = none) :
    Q (.ref p) (upd H1 p (.lst (zs.map V.int))) := by
  have e2 : Same H (upd H1 p (.lst (zs.map V.int))) := fun b o h => by
    rw [upd_ne (ne_of_none (e _ _ h) hp)]
    exact e _ _ h
  have e1 : (Kqk3.step (some n) q).1 = some n := congrArg Prod.fst hq
  refine k _ p l as ?_ (hT.ext e2) (Kept.of (ExtN.of e2)) (News.refl _ _ _) (Fresh.of (e.free hp)) ?_
  · rw [e1]
    exact Nt.extN (ExtN.of e2)
  · rw [upd_same, hz]
theorem scA : FnScope ["self", "supply_grade", "return_grade", "value"] ["self", "supply_grade", "return_grade", "value"] (defScope sAdd) := ⟨rfl, rfl, rfl, by decide +kernel, rfl, by decide +kernel, by decide +kernel⟩
theorem step_add (n : Network) (s r v : Nat) : Kqk3.step (some n) (.addUser s r v) = if s ≤ r ∨ n.gradeCount < s ∨ 100 < v then (some n, .value (-22)) else if 8 ≤ n.users.length then (some n, .value (-28)) else (some { n with users := n.users ++ [⟨s, r, v⟩] }, .value n.users.length) := rfl
theorem same_add {n : Network} {s r v : Nat} {z : Int} (h : Kqk3.step (some n) (.addUser s r v) = (some n, .value z)) : Kqk3.step (some n) (.addUser s r v) = (some n, (Kqk3.step (some n) (.addUser s r v)).2) ∧ ans (Kqk3.step (some n) (.addUser s r v)).2 = [z] := by
  rw [h]
  exact ⟨rfl, rfl⟩
theorem ok_add {f fI : Addr} {fd fdI : FuncData} (F : Fun K "add_user" "Network.add_user" sAdd f fd) (T : TN K mg N) (B : TB mg) (Tu : TU K mg C) (M : Mk K C fI) (GI : FnOk P w K mg base CX0 1 fI fdI ["self", "supply_grade", "return_grade", "value"] (spUInit C)) (bI : Binds K fdI ["self", "supply_grade", "return_grade", "value"] []) :
    FnOk P w K mg base CX0 3 f fd ["self", "supply_grade", "return_grade", "value"] (spM N C Pt 3 fun xs => .addUser (xs.getD 0 0) (xs.getD 1 0) (xs.getD 2 0)) := by
  refine F.ok scA (fun vs H Q E h => ?_) (fun cdv A outer s H vs Q E hr h => ?_)
  · obtain ⟨a, l, as, n, xs, rfl, hx, _⟩ := h
    simp [hx]
  · obtain ⟨a, l, as, n, xs, rfl, hx, Nt, hv, hT, k⟩ := h
    obtain ⟨sg, rg, v, rfl⟩ : ∃ x y z, xs = [x, y, z] := match xs, hx with
      | [x, y, z], _ => ⟨x, y, z, rfl⟩
    replace k : ∀ H' p l' as', NetAt N C H' a l' as' (Kqk3.step (some n) (.addUser sg rg v)).1 → Tabs (TT Pt) H' → Kept H H' a l as → News H l as l' as' → Fresh H p → H' p = some (.lst ((ans (Kqk3.step (some n) (.addUser sg rg v)).2).map V.int)) → Q (.ref p) H' := k
    have hs := step_add n sg rg v
    refine ⟨_, pss_cons (ps_if (PW.pt (pw_or (pt_cmpR op_le (pv 1) (pv 2) (nomark _)) (pw_or (pt_cmpR op_gt (pv 1) (pe_fld (pv 0) rfl) (nomark _)) (pw_or1 (pt_cmpR op_gt (pv 3) (pcon 100 (by rfl) T.cMV) (nomark _)))))) (pss_one (ps_ret (pe_lst (pa_cons (pcon (-22) (by rfl) T.cOR) pa_nil)))) pss_nil)
      (pss_cons (ps_if (pt_cmpR op_eq (pe_callB call_len_r (by rfl) B.len PySem.boot_len (pa_cons (pe_fld (pv 0) rfl) pa_nil)) (pcon 8 (by rfl) T.cMU) (nomark _)) (pss_one (ps_ret (pe_lst (pa_cons (pcon (-28) (by rfl) T.cTM) pa_nil)))) pss_nil)
      (pss_cons (ps_expr (pe_bm PySem.F.plainAttrs_list PySem.F.slot_list_append PySem.F.type_list_append mt_append (pe_fld (pv 0) rfl) (pa_cons (pe_make M GI hr (by rfl) Tu.gC bI .nil pass0 (pa_cons (pv 1) (pa_cons (pv 2) (pa_cons (pv 3) pa_nil)))) pa_nil)))
      (pss_one (ps_ret (pe_lst (pa_cons (pe_op op_sub (pe_callB call_len_r (by rfl) B.len PySem.boot_len (pa_cons (pe_fld (pv 0) rfl) pa_nil)) pe_int) pa_nil)))))), ?_⟩
    obtain ⟨⟨dx, ho⟩, U, nd⟩ := id Nt
    refine ⟨_, rfl, _, rfl, _, _, rfl, rfl, _, rfl, ?_⟩
    rw [dec_le]
    by_cases h1 : sg ≤ rg
    · rw [if_pos (.inl h1)] at hs
      rw [decide_eq_true h1]
      exact iteT (iteT ⟨one_le, same_end (zs := [-22]) (same_add hs).1 (same_add hs).2 (Same.refl H) Nt hT k⟩)
    rw [decide_eq_false h1]
    refine iteF ⟨_, rfl, rd_gc T rfl ho ⟨_, _, rfl, rfl, _, rfl, ?_⟩⟩
    rw [dec_lt]
    by_cases h2 : gcOf (some n) < sg
    · rw [if_pos (.inr (.inl h2))] at hs
      rw [decide_eq_true h2]
      exact iteT (iteT ⟨one_le, same_end (zs := [-22]) (same_add hs).1 (same_add hs).2 (Same.refl H) Nt hT k⟩)
    rw [decide_eq_false h2]
    refine iteF ⟨_, rfl, _, _, rfl, rfl, _, rfl, ?_⟩
    have d3 : decide ((100 : Int) < (v : Int)) = decide (100 < v) := dec_lt 100 v
    rw [d3]
    by_cases h3 : 100 < v
    · rw [if_pos (.inr (.inr h3))] at hs
      rw [decide_eq_true h3]
      exact iteT ⟨one_le, same_end (zs := [-22]) (same_add hs).1 (same_add hs).2 (Same.refl H) Nt hT k⟩
    rw [decide_eq_false h3]
    rw [if_neg (fun z => z.elim h1 fun z => z.elim h2 h3)] at hs
    refine iteF (rd_len T rfl ho U ⟨rfl, _, rfl, ?_⟩)
    have d4 : decide (vI (usOf (some n)).length = V.int 8) = decide (n.users.length = 8) := dec_eq _ 8
    rw [d4]
    have hu8 := hv.u8
    by_cases h4 : n.users.length = 8
    · rw [if_pos (by omega)] at hs
      rw [decide_eq_true h4]
      exact iteT ⟨one_le, same_end (zs := [-28]) (same_add hs).1 (same_add hs).2 (Same.refl H) Nt hT k⟩
    rw [decide_eq_false h4]
    rw [if_neg (by omega)] at hs
    rw [hs] at k
    refine iteF ⟨_, rfl, a, N, dx, _, _, rfl, ho, T.cl, T.nU, nF_u _ _, .inl ⟨rfl, _, SqL.of U.lst⟩, _, rfl, _, rfl, _, rfl, fun x dy nx nd' nxd => ?_⟩
    refine ⟨x, dy, sg, rg, v, rfl, upd_same, fun H1 hx1 kp => ⟨rfl, ?_⟩⟩
    have s1 : Same H H1 := Same.made nx nd' kp
    have hal := Nt.ne
    have hxl : x ≠ l := fun z => by rw [z, U.lst] at nx; cases nx
    have hxa : x ≠ a := fun z => by rw [z, ho] at nx; cases nx
    have hlen : (as.map V.ref).length = n.users.length := by rw [List.length_map, U.len]; rfl
    refine ⟨l, _, _, rfl, rfl, s1 _ _ U.lst, small1000 (by omega), ?_⟩
    obtain ⟨H2, hH2⟩ : ∃ H2, H2 = upd H1 l (.lst (as.map V.ref ++ [V.ref x])) := ⟨_, rfl⟩
    rw [← hH2]
    have k2 : ∀ b o, H b = some o → b ≠ l → H2 b = some o := fun b o h n => by
      rw [hH2, upd_ne n]
      exact s1 _ _ h
    have ho2 := k2 _ _ ho hal
    have U2 : UsersAt C H2 l (as ++ [x]) (n.users ++ [⟨sg, rg, v⟩]) := by
      refine ⟨by rw [hH2, upd_same, List.map_append]; rfl, by rw [List.length_append, List.length_append, U.len]; rfl, fun j b h => ?_⟩
      by_cases hj : j < as.length
      · rw [List.getElem?_append_left hj] at h
        obtain ⟨u, h1, dz, h2⟩ := U.at_ j b h
        refine ⟨u, by rw [List.getElem?_append_left (by rw [← show as.length = n.users.length from U.len]; exact hj)]; exact h1, dz, k2 _ _ h2 fun z => ?_⟩
        rw [z, U.lst] at h2
        cases h2
      · have hj2 : j = as.length := by
          have := (List.getElem?_eq_some_iff.mp h).1
          simp at this
          omega
        subst hj2
        rw [List.getElem?_append_right (Nat.le_refl _), Nat.sub_self] at h
        have e : x = b := Option.some.inj h
        subst e
        refine ⟨⟨sg, rg, v⟩, ?_, ?_⟩
        · rw [show as.length = n.users.length from U.len, List.getElem?_append_right (Nat.le_refl _), Nat.sub_self]
          rfl
        · obtain ⟨dz, hz⟩ := hx1
          refine ⟨dz, ?_⟩
          rw [hH2, upd_ne hxl]
          exact hz
    have hnl : (n.users ++ [(⟨sg, rg, v⟩ : User)]).length = n.users.length + 1 := by simp
    refine rd_len T (C := C) rfl ho2 U2 ⟨_, _, rfl, rfl, one_le, fun p hp => ?_⟩
    have e5 : ((n.users ++ [(⟨sg, rg, v⟩ : User)]).length : Int) - 1 = (n.users.length : Int) := by rw [hnl]; omega
    show Q (.ref p) (upd H2 p (.lst [V.int (((n.users ++ [(⟨sg, rg, v⟩ : User)]).length : Int) - 1)]))
    rw [e5]
    have s3 : Same H2 (upd H2 p (.lst [V.int (n.users.length : Int)])) := fun b o h => by
      rw [upd_ne (ne_of_none h hp)]
      exact h
    have npl : p ≠ l := fun z => by
      rw [z, hH2, upd_same] at hp
      cases hp
    have Hp : H p = none := by
      cases q : H p with
      | none => rfl
      | some o =>
        rw [k2 _ _ q npl] at hp
        cases hp
    refine k _ p l (as ++ [x]) ⟨⟨dx, s3 _ _ ho2⟩, U2.same s3, ?_⟩ (tabs_of (fun b o h n1 n2 => s3 _ _ (k2 _ _ h fun z => by rw [z, U.lst] at h; cases h; exact n2 _ rfl)) hT) (fun b o h n1 n2 n3 _ => s3 _ _ (k2 _ _ h n2)) (fun b hb => ?_) (Fresh.of Hp) upd_same
    · rw [List.nodup_append]
      refine ⟨nd, by simp, fun y hy z hz => ?_⟩
      rw [List.mem_singleton] at hz
      intro e
      obtain ⟨u, du, hu⟩ := U.mem hy
      rw [e, hz, nx] at hu
      cases hu
    · rcases hb with z | z
      · exact .inl (.inl z)
      rcases List.mem_append.mp z with z | z
      · exact .inl (.inr z)
      · rw [List.mem_singleton] at z
        rw [z]
        exact .inr nx
end
end HD

set_option Elab.async false
set_option linter.all false
set_option maxRecDepth 100000
set_option maxHeartbeats 2000000
namespace HD
open PySem PySem.Spec PyProof.Rows L2 LamX SL HC
open Kqk3 (User Network Request)
abbrev sHasU : Stmt := sNet 2
abbrev sHasS : Stmt := sNet 3
abbrev sCanP : Stmt := sNet 4
/-- the further constants -/
structure TN2 (mg : Str → Option Value) : Prop where
  cMC : ∃ t, mg "MOST_CASCADES" = some (.int 8 t)
  cMP : ∃ t, mg "MOST_PRICE" = some (.int 1000 t)
/-- the count of cascades and the prices are in their ranges -/
def priced (n : Network) (k : Nat) (ps : List Nat) : Bool := decide (k ≤ 8) && Kqk3.arePrices n ps
def spHasU (N C : Addr) : Sp := fun vs H Q _ => ∃ (a l : Addr) (as : List Addr) (n : Network) (i : Nat), vs = [.ref a, vI i] ∧ NetAt N C H a l as (some n) ∧ Q (.bl (decide (i < n.users.length))) H
def spHasS (N C : Addr) : Sp := fun vs H Q _ => ∃ (a l : Addr) (as : List Addr) (n : Network) (set : Nat), vs = [.ref a, vI set] ∧ NetAt N C H a l as (some n) ∧ Valid n ∧ Q (.bl (Kqk3.isSet n set)) H
def spCanP (N C : Addr) : Sp := fun vs H Q _ => ∃ (a l g : Addr) (as : List Addr) (n : Network) (k : Nat) (ps : List Nat), vs = [.ref a, vI k, .ref g] ∧ NetAt N C H a l as (some n) ∧ Valid n ∧ H g = some (.lst (ps.map vI)) ∧ Q (.bl (priced n k ps)) H
theorem not_t {c : Bool} (h : c = false) : (!c) = true := by rw [h]; rfl
theorem not_f {c : Bool} (h : c = true) : (!c) = false := by rw [h]; rfl
theorem by_t {c : Bool} {A B : Prop} (e : c = true) (h : A) : if c = true then A else B := (if_pos e).symm ▸ h
theorem by_f {c : Bool} {A B : Prop} (e : c = false) (h : B) : if c = true then A else B := (if_neg (show ¬ c = true by rw [e]; decide)).symm ▸ h
theorem all_max {ps : List Nat} {m : Int} (h1 : m ∈ ps.map cI) (h2 : ∀ y ∈ ps.map cI, y ≤ m) : decide (m ≤ 1000) = ps.all fun x => decide (x ≤ 1000) := by
  obtain ⟨x, hx, rfl⟩ := List.mem_map.mp h1
  by_cases h : x ≤ 1000
  · have e : (ps.all fun x => decide (x ≤ 1000)) = true := List.all_eq_true.mpr fun y hy => by
      have z : cI y ≤ cI x := h2 (cI y) (List.mem_map.mpr ⟨y, hy, rfl⟩)
      have z2 : (y : Int) ≤ (x : Int) := z
      exact decide_eq_true (by omega)
    rw [e]
    exact decide_eq_true (by show (x : Int) ≤ 1000; omega)
  · have e : (ps.all fun x => decide (x ≤ 1000)) = false := by
      rw [List.all_eq_false]
      exact ⟨x, hx, by simpa using h⟩
    rw [e]
    exact decide_eq_false (by show ¬ (x : Int) ≤ 1000; omega)
section
variable {P : Program} {w : World} {K : PySem.W.Frag} {mg : Str → Option Value} {base : Heap} {C N Pt : Addr}
theorem scHU : FnScope ["self", "user"] ["self", "user"] (defScope sHasU) := ⟨rfl, rfl, rfl, by decide +kernel, rfl, by decide +kernel, by decide +kernel⟩
theorem ok_hasU {f : Addr} {fd : FuncData} (F : Fun K "has_user" "Network.has_user" sHasU f fd) (T : TN K mg N) (B : TB mg) : FnOk P w K mg base CX0 1 f fd ["self", "user"] (spHasU N C) := by
  refine F.ok scHU (fun vs H Q E h => ?_) (fun cdv A outer s H vs Q E hr h => ?_)
  · obtain ⟨a, l, as, n, i, rfl, _⟩ := h
    rfl
  · obtain ⟨a, l, as, n, i, rfl, ⟨⟨dx, ho⟩, U, nd⟩, k⟩ := h
    refine ⟨_, pss_one (ps_ret (pe_cmpR op_lt (pv 1) (pe_callB call_len_r (by rfl) B.len PySem.boot_len (pa_cons (pe_fld (pv 0) rfl) pa_nil)) (nomark _))), ?_⟩
    refine ⟨_, rfl, rd_len T (C := C) rfl ho U ⟨_, _, rfl, rfl, ?_⟩⟩
    rw [← dec_lt] at k
    exact k
theorem scHS : FnScope ["self", "user_set"] ["self", "user_set"] (defScope sHasS) := ⟨rfl, rfl, rfl, by decide +kernel, rfl, by decide +kernel, by decide +kernel⟩
theorem ok_hasS {f : Addr} {fd : FuncData} (F : Fun K "has_users_of" "Network.has_users_of" sHasS f fd) (T : TN K mg N) (B : TB mg) : FnOk P w K mg base CX0 1 f fd ["self", "user_set"] (spHasS N C) := by
  refine F.ok scHS (fun vs H Q E h => ?_) (fun cdv A outer s H vs Q E hr h => ?_)
  · obtain ⟨a, l, as, n, i, rfl, _⟩ := h
    rfl
  · obtain ⟨a, l, as, n, set, rfl, ⟨⟨dx, ho⟩, U, nd⟩, hv, k⟩ := h
    have h8 : (usOf (some n)).length ≤ 8 := hv.u8
    refine ⟨_, pss_one (ps_ret (pe_cmpR op_lt (pv 1) (pe_op op_oneShl pe_int (pe_callB call_len_r (by rfl) B.len PySem.boot_len (pa_cons (pe_fld (pv 0) rfl) pa_nil))) (nomark _))), ?_⟩
    refine ⟨_, rfl, rd_len T (C := C) rfl ho U ⟨_, rfl, rfl, by omega, _, _, rfl, rfl, ?_⟩⟩
    have e : decide ((set : Int) < (2 : Int) ^ (usOf (some n)).length) = Kqk3.isSet n set := by
      rw [two_powI]
      exact dec_lt _ _
    rw [← e] at k
    exact k
theorem scCP : FnScope ["self", "cascade_count", "prices"] ["self", "cascade_count", "prices"] (defScope sCanP) := ⟨rfl, rfl, rfl, by decide +kernel, rfl, by decide +kernel, by decide +kernel⟩
theorem ok_canP {f : Addr} {fd : FuncData} (F : Fun K "can_price" "Network.can_price" sCanP f fd) (T : TN K mg N) (T2 : TN2 mg) (B : TB mg) : FnOk P w K mg base CX0 1 f fd ["self", "cascade_count", "prices"] (spCanP N C) := by
  refine F.ok scCP (fun vs H Q E h => ?_) (fun cdv A outer s H vs Q E hr h => ?_)
  · obtain ⟨a, l, g, as, n, k, ps, rfl, _⟩ := h
    rfl
  · obtain ⟨a, l, g, as, n, k, ps, rfl, ⟨⟨dx, ho⟩, U, nd⟩, hv, hg, kk⟩ := h
    refine ⟨_, pss_cons (ps_if (PW.pt (pw_or (pt_cmpR op_gt (pv 1) (pcon 8 (by rfl) T2.cMC) (nomark _)) (pw_or1 (pt_cmpR op_ne (pe_callB call_lenV (by rfl) B.len PySem.boot_len (pa_cons (pv 2) pa_nil)) (pe_fld (pv 0) rfl) (nomark _))))) (pss_one (ps_ret pe_bl)) pss_nil)
      (pss_one (ps_ret (pe_cmpR op_le (pe_callB (cr_max rfl) (by rfl) B.max boot_max (pa_cons (pv 2) pa_nil)) (pcon 1000 (by rfl) T2.cMP) (nomark _)))), ?_⟩
    have d1 : decide ((8 : Int) < (k : Int)) = decide (8 < k) := dec_lt 8 k
    have hpr : priced n k ps = (decide (k ≤ 8) && (ps.length == n.gradeCount && ps.all fun x => decide (x ≤ 1000))) := rfl
    refine ⟨_, rfl, _, _, rfl, rfl, _, rfl, ?_⟩
    by_cases h1 : 8 < k
    · refine by_t (d1.trans (decide_eq_true h1)) (by_t rfl ?_)
      rw [decide_eq_false (by omega : ¬ k ≤ 8), Bool.false_and] at hpr
      rw [hpr] at kk
      exact kk
    · refine by_f (d1.trans (decide_eq_false h1)) ?_
      rw [decide_eq_true (by omega : k ≤ 8), Bool.true_and] at hpr
      have hlen : (ps.map vI).length = ps.length := List.length_map ..
      refine ⟨_, rfl, g, _, rfl, .inl (SqL.of hg), rd_gc T rfl ho ⟨rfl, _, rfl, ?_⟩⟩
      rw [hlen]
      by_cases h2 : ps.length = n.gradeCount
      · refine by_f (by rw [h2]; simp [gcOf]) ?_
        have h3 : (ps.length == n.gradeCount) = true := by rw [h2]; exact beq_self_eq_true _
        rw [h3, Bool.true_and] at hpr
        refine ⟨_, rfl, g, ps.map cI, rfl, by rw [as_ints]; exact SqL.of hg, by rw [List.length_map, h2]; exact hv.g1, fun m hm hmax => ⟨_, _, rfl, rfl, ?_⟩⟩
        have e := all_max hm hmax
        rw [← e] at hpr
        rw [hpr] at kk
        exact kk
      · refine by_t (by simp [gcOf]; omega) ?_
        have h3 : (ps.length == n.gradeCount) = false := by simpa using h2
        rw [h3, Bool.false_and] at hpr
        rw [hpr] at kk
        exact kk
end
end HD

set_option Elab.async false
set_option linter.all false
set_option maxRecDepth 100000
set_option maxHeartbeats 2000000
namespace HD
open PySem PySem.Spec PyProof.Rows L2 LamX SL HC
open Kqk3 (User Network Request)
/-- what a step that changes nothing gives -/
theorem step_same {n : Network} {q : Request} {r : Kqk3.Result} {zs : List Int} (h : Kqk3.step (some n) q = (some n, r)) (hz : ans r = zs) : Kqk3.step (some n) q = (some n, (Kqk3.step (some n) q).2) ∧ ans (Kqk3.step (some n) q).2 = zs := by
  rw [h]
  exact ⟨rfl, hz⟩
theorem er_map {α β : Type} (f : α → β) : ∀ (l : List α) (i : Nat), (l.map f).eraseIdx i = (l.eraseIdx i).map f
  | [], _ => rfl
  | _ :: _, 0 => rfl
  | x :: l, i + 1 => congrArg (f x :: ·) (er_map f l i)
theorem UsersAt.erase {C : Addr} {H H' : Hp} {l : Addr} {as : List Addr} {us : List User} {i : Nat} (B : UsersAt C H l as us) (hl : H' l = some (.lst ((as.map V.ref).eraseIdx i))) (e : ∀ b o, H b = some o → b ≠ l → H' b = some o) (hi : i < us.length) : UsersAt C H' l (as.eraseIdx i) (us.eraseIdx i) := by
  refine ⟨?_, by rw [List.length_eraseIdx, List.length_eraseIdx, B.len], fun j a h => ?_⟩
  · rw [hl, er_map]
  · rw [List.getElem?_eraseIdx] at h ⊢
    split
    · rename_i hj
      rw [if_pos hj] at h
      obtain ⟨u, h1, dz, h2⟩ := B.at_ j a h
      exact ⟨u, h1, dz, e _ _ h2 fun z => by rw [z, B.lst] at h2; cases h2⟩
    · rename_i hj
      rw [if_neg hj] at h
      obtain ⟨u, h1, dz, h2⟩ := B.at_ (j + 1) a h
      exact ⟨u, h1, dz, e _ _ h2 fun z => by rw [z, B.lst] at h2; cases h2⟩
theorem UsersAt.value {C : Addr} {H H' : Hp} {l : Addr} {as : List Addr} {us : List User} {i v : Nat} {a : Addr} (B : UsersAt C H l as us) (nd : as.Nodup) (ha : as[i]? = some a) (hu : UserAt C H' a { usr us i with value := v }) (e : ∀ b o, H b = some o → b ≠ a → H' b = some o) : UsersAt C H' l as (us.set i { usr us i with value := v }) := by
  have hi : i < us.length := by
    rw [← B.len]
    exact (List.getElem?_eq_some_iff.mp ha).1
  have hla : l ≠ a := fun z => B.ap (by rw [z]; exact List.mem_of_getElem? ha)
  refine ⟨e _ _ B.lst hla, by rw [List.length_set]; exact B.len, fun j b h => ?_⟩
  by_cases hj : j = i
  · subst hj
    rw [ha] at h
    cases h
    exact ⟨_, List.getElem?_set_self hi, hu⟩
  · obtain ⟨u, h1, dz, h2⟩ := B.at_ j b h
    refine ⟨u, by rw [List.getElem?_set_ne (fun z => hj z.symm)]; exact h1, dz, e _ _ h2 fun z => hj (nd_ix nd h (by rw [z]; exact ha))⟩
section
variable {P : Program} {w : World} {K : PySem.W.Frag} {mg : Str → Option Value} {base : Heap} {C N Pt : Addr}
theorem scRm : FnScope ["self", "user"] ["self", "user"] (defScope sRemove) := ⟨rfl, rfl, rfl, by decide +kernel, rfl, by decide +kernel, by decide +kernel⟩
theorem ok_remove {f fH : Addr} {fd dH : FuncData} (F : Fun K "remove_user" "Network.remove_user" sRemove f fd) (T : TN K mg N) (B : TB mg) (GH : FnOk P w K mg base CX0 1 fH dH ["self", "user"] (spHasU N C)) (bH : Binds K dH ["self", "user"] []) (MH : Meth K N "has_user" fH) : FnOk P w K mg base CX0 2 f fd ["self", "user"] (spM N C Pt 1 fun xs => .removeUser (xs.getD 0 0)) := by
  refine F.ok scRm (fun vs H Q E h => ?_) (fun cdv A outer s H vs Q E hr h => ?_)
  · obtain ⟨a, l, as, n, xs, rfl, hx, _⟩ := h
    simp [hx]
  · obtain ⟨a, l, as, n, xs, rfl, hx, Nt, hv, hT, k⟩ := h
    obtain ⟨i, rfl⟩ : ∃ x, xs = [x] := match xs, hx with
      | [x], _ => ⟨x, rfl⟩
    replace k : ∀ H' p l' as', NetAt N C H' a l' as' (Kqk3.step (some n) (.removeUser i)).1 → Tabs (TT Pt) H' → Kept H H' a l as → News H l as l' as' → Fresh H p → H' p = some (.lst ((ans (Kqk3.step (some n) (.removeUser i)).2).map V.int)) → Q (.ref p) H' := k
    have hs : Kqk3.step (some n) (.removeUser i) = if n.users.length ≤ i then (some n, .value (-2)) else (some { n with users := n.users.eraseIdx i }, .value (n.users.length - 1 : Nat)) := rfl
    refine ⟨_, pss_cons (ps_if (pt_not (pt_val (pe_meth (pv 0) T.cl MH GH hr bH .nil pass0 (pa_cons (pv 1) pa_nil)))) (pss_one (ps_ret (pe_lst (pa_cons (pcon (-2) (by rfl) T.cNU) pa_nil)))) pss_nil)
      (pss_cons (ps_expr (pe_bm PySem.F.plainAttrs_list PySem.F.slot_list_pop PySem.F.type_list_pop mt_popAt (pe_fld (pv 0) rfl) (pa_cons (pv 1) pa_nil)))
      (pss_one (ps_ret (pe_lst (pa_cons (pe_callB call_len_r (by rfl) B.len PySem.boot_len (pa_cons (pe_fld (pv 0) rfl) pa_nil)) pa_nil))))), ?_⟩
    obtain ⟨⟨dx, ho⟩, U, nd⟩ := id Nt
    have hal := Nt.ne
    refine ⟨_, rfl, a, dx, _, rfl, ho, nF_none (by decide +kernel) (by decide +kernel) _ _, _, rfl, a, l, as, n, i, rfl, Nt, _, rfl, ?_⟩
    by_cases h1 : (usOf (some n)).length ≤ i
    · rw [if_pos (show n.users.length ≤ i from h1)] at hs
      exact by_t (not_t (decide_eq_false (Nat.not_lt.mpr h1))) ⟨one_le, same_end (zs := [-2]) (step_same hs rfl).1 (step_same hs rfl).2 (Same.refl H) Nt hT k⟩
    refine by_f (not_f (decide_eq_true (Nat.lt_of_not_le h1))) ?_
    rw [if_neg (show ¬ n.users.length ≤ i from h1)] at hs
    rw [hs] at k
    have hi : i < n.users.length := Nat.lt_of_not_le h1
    have h8 := hv.u8
    have hlen : (as.map V.ref).length = n.users.length := by rw [List.length_map, U.len]; rfl
    obtain ⟨ai, hai, _⟩ := U.get hi
    refine ⟨_, rfl, a, N, dx, _, _, rfl, ho, T.cl, T.nU, nF_u _ _, .inl ⟨rfl, _, SqL.of U.lst⟩, _, rfl, l, _, _, i, V.ref ai, rfl, rfl, U.lst, by omega, by omega, by rw [seqIndex_at (by omega) (by omega), Int.toNat_natCast], by rw [List.getElem?_map, hai]; rfl, ?_⟩
    obtain ⟨H2, hH2⟩ : ∃ H2, H2 = upd H l (.lst ((as.map V.ref).eraseIdx i)) := ⟨_, rfl⟩
    rw [← hH2]
    have k2 : ∀ b o, H b = some o → b ≠ l → H2 b = some o := fun b o h n => by
      rw [hH2, upd_ne n]
      exact h
    have U2 : UsersAt C H2 l (as.eraseIdx i) (n.users.eraseIdx i) := U.erase (by rw [hH2, upd_same]) k2 hi
    have ho2 := k2 _ _ ho hal
    refine rd_len T (C := C) rfl ho2 U2 ⟨one_le, fun p hp => ?_⟩
    have e5 : ((n.users.eraseIdx i).length : Int) = ((n.users.length - 1 : Nat) : Int) := by
      rw [List.length_eraseIdx, if_pos hi]
    show Q (.ref p) (upd H2 p (.lst [V.int ((n.users.eraseIdx i).length : Int)]))
    rw [e5]
    have s3 : Same H2 (upd H2 p (.lst [V.int ((n.users.length - 1 : Nat) : Int)])) := fun b o h => by
      rw [upd_ne (ne_of_none h hp)]
      exact h
    have npl : p ≠ l := fun z => by
      rw [z, hH2, upd_same] at hp
      cases hp
    have Hp : H p = none := by
      cases q : H p with
      | none => rfl
      | some o =>
        rw [k2 _ _ q npl] at hp
        cases hp
    refine k _ p l (as.eraseIdx i) ⟨⟨dx, s3 _ _ ho2⟩, U2.same s3, nd.sublist (List.eraseIdx_sublist ..)⟩ (tabs_of (fun b o h n1 n2 => s3 _ _ (k2 _ _ h fun z => by rw [z, U.lst] at h; cases h; exact n2 _ rfl)) hT) (fun b o h n1 n2 n3 _ => s3 _ _ (k2 _ _ h n2)) (fun b hb => ?_) (Fresh.of Hp) upd_same
    rcases hb with z | z
    · exact .inl (.inl z)
    · exact .inl (.inr (List.mem_of_mem_eraseIdx z))
theorem scSv : FnScope ["self", "user", "value", "changed", "previous"] ["self", "user", "value"] (defScope sSet) := ⟨rfl, rfl, rfl, by decide +kernel, rfl, by decide +kernel, by decide +kernel⟩
theorem ok_set {f fH : Addr} {fd dH : FuncData} (F : Fun K "set_value" "Network.set_value" sSet f fd) (T : TN K mg N) (B : TB mg) (Tu : TU K mg C) (GH : FnOk P w K mg base CX0 1 fH dH ["self", "user"] (spHasU N C)) (bH : Binds K dH ["self", "user"] []) (MH : Meth K N "has_user" fH) : FnOk P w K mg base CX0 2 f fd ["self", "user", "value"] (spM N C Pt 2 fun xs => .setValue (xs.getD 0 0) (xs.getD 1 0)) := by
  refine F.ok scSv (fun vs H Q E h => ?_) (fun cdv A outer s H vs Q E hr h => ?_)
  · obtain ⟨a, l, as, n, xs, rfl, hx, _⟩ := h
    simp [hx]
  · obtain ⟨a, l, as, n, xs, rfl, hx, Nt, hv, hT, k⟩ := h
    obtain ⟨i, v, rfl⟩ : ∃ x y, xs = [x, y] := match xs, hx with
      | [x, y], _ => ⟨x, y, rfl⟩
    replace k : ∀ H' p l' as', NetAt N C H' a l' as' (Kqk3.step (some n) (.setValue i v)).1 → Tabs (TT Pt) H' → Kept H H' a l as → News H l as l' as' → Fresh H p → H' p = some (.lst ((ans (Kqk3.step (some n) (.setValue i v)).2).map V.int)) → Q (.ref p) H' := k
    have hs : Kqk3.step (some n) (.setValue i v) = if n.users.length ≤ i then (some n, .value (-2)) else if 100 < v then (some n, .value (-22)) else (some { n with users := n.users.set i { Kqk3.user n i with value := v } }, .value (Kqk3.user n i).value) := rfl
    refine ⟨_, pss_cons (ps_if (pt_not (pt_val (pe_meth (pv 0) T.cl MH GH hr bH .nil pass0 (pa_cons (pv 1) pa_nil)))) (pss_one (ps_ret (pe_lst (pa_cons (pcon (-2) (by rfl) T.cNU) pa_nil)))) pss_nil)
      (pss_cons (ps_if (pt_cmpR op_gt (pv 2) (pcon 100 (by rfl) T.cMV) (nomark _)) (pss_one (ps_ret (pe_lst (pa_cons (pcon (-22) (by rfl) T.cOR) pa_nil)))) pss_nil)
      (pss_cons (ps_set (i := 3) scSv.nd rfl (Or.inl rfl) (pe_ix ix_list (pe_fld (pv 0) rfl) (pv 1) (fun _ _ => rfl)))
      (pss_cons (ps_set (i := 4) scSv.nd rfl (Or.inl rfl) (pe_fld (pv 3) rfl))
      (pss_cons (ps_fld (pv 3) (pv 2) rfl)
      (pss_one (ps_ret (pe_lst (pa_cons (pv 4) pa_nil)))))))), ?_⟩
    obtain ⟨⟨dx, ho⟩, U, nd⟩ := id Nt
    have hal := Nt.ne
    refine ⟨_, rfl, a, dx, _, rfl, ho, nF_none (by decide +kernel) (by decide +kernel) _ _, _, rfl, a, l, as, n, i, rfl, Nt, _, rfl, ?_⟩
    by_cases h1 : (usOf (some n)).length ≤ i
    · rw [if_pos (show n.users.length ≤ i from h1)] at hs
      exact by_t (not_t (decide_eq_false (Nat.not_lt.mpr h1))) ⟨one_le, same_end (zs := [-2]) (step_same hs rfl).1 (step_same hs rfl).2 (Same.refl H) Nt hT k⟩
    refine by_f (not_f (decide_eq_true (Nat.lt_of_not_le h1))) ?_
    rw [if_neg (show ¬ n.users.length ≤ i from h1)] at hs
    refine ⟨_, rfl, _, _, rfl, rfl, _, rfl, ?_⟩
    have d3 : decide ((100 : Int) < (v : Int)) = decide (100 < v) := dec_lt 100 v
    rw [d3]
    by_cases h2 : 100 < v
    · rw [if_pos h2] at hs
      rw [decide_eq_true h2]
      exact iteT ⟨one_le, same_end (zs := [-22]) (step_same hs rfl).1 (step_same hs rfl).2 (Same.refl H) Nt hT k⟩
    rw [decide_eq_false h2]
    rw [if_neg h2] at hs
    rw [hs] at k
    have hi : i < n.users.length := Nat.lt_of_not_le h1
    obtain ⟨ai, hai, dz, hui⟩ := U.get hi
    have hm : ai ∈ as := List.mem_of_getElem? hai
    have hla : l ≠ ai := fun z => U.ap (by rw [z]; exact hm)
    have haa : a ≠ ai := fun z => by
      rw [← z, ho] at hui
      have z2 := Option.some.inj hui
      injection z2 with z3 z4 z5
      have z6 : ("grade_count" : Str) = "supply_grade" := congrArg Prod.fst (List.cons.inj z5).1
      exact absurd z6 (by decide +kernel)
    refine iteF ⟨_, rfl, a, N, dx, _, _, rfl, ho, T.cl, T.nU, nF_u _ _, _, rfl, l, _, _, V.ref ai, rfl, rfl, SqL.of U.lst, at_of (j := i) rfl (by rw [List.getElem?_map, hai]; rfl), ?_⟩
    refine ⟨_, rfl, ai, C, dz, _, _, rfl, hui, Tu.cl, Tu.nV, uF_v _, ?_⟩
    refine ⟨_, rfl, _, rfl, ai, C, dz, _, rfl, hui, Tu.cl, Tu.nV, (by show 3 < 1000; decide), ?_⟩
    rw [uF_put]
    obtain ⟨H2, hH2⟩ : ∃ H2, H2 = upd H ai (.ins C dz (uF ⟨(usr (usOf (some n)) i).supply, (usr (usOf (some n)) i).returned, v⟩)) := ⟨_, rfl⟩
    rw [← hH2]
    have k2 : ∀ b o, H b = some o → b ≠ ai → H2 b = some o := fun b o h n => by
      rw [hH2, upd_ne n]
      exact h
    have U2 : UsersAt C H2 l as (n.users.set i { usr n.users i with value := v }) := U.value nd hai ⟨dz, by rw [hH2, upd_same]⟩ k2
    have ho2 := k2 _ _ ho haa
    refine ⟨_, rfl, one_le, fun p hp => ?_⟩
    have s3 : Same H2 (upd H2 p (.lst [vI (usr n.users i).value])) := fun b o h => by
      rw [upd_ne (ne_of_none h hp)]
      exact h
    have npl : p ≠ ai := fun z => by
      rw [z, hH2, upd_same] at hp
      cases hp
    have Hp : H p = none := by
      cases q : H p with
      | none => rfl
      | some o =>
        rw [k2 _ _ q npl] at hp
        cases hp
    exact k _ p l as ⟨⟨dx, s3 _ _ ho2⟩, U2.same s3, nd⟩ (tabs_of (fun b o h n1 n2 => s3 _ _ (k2 _ _ h fun z => by rw [z, hui] at h; cases h; exact n1 _ _ _ rfl)) hT) (fun b o h n1 n2 n3 _ => s3 _ _ (k2 _ _ h fun z => n3 (by rw [z]; exact hm))) (News.refl _ _ _) (Fresh.of Hp) upd_same
theorem scLd : FnScope ["self", "grade"] ["self", "grade"] (defScope sLoadM) := ⟨rfl, rfl, rfl, by decide +kernel, rfl, by decide +kernel, by decide +kernel⟩
theorem ok_loadM {f fL : Addr} {fd fdL : FuncData} (F : Fun K "load" "Network.load" sLoadM f fd) (T : TN K mg N) (GL : FnOk P w K mg base CX0 2 fL fdL ["users", "grade"] (spLoad C)) (bL : Binds K fdL ["users", "grade"] []) (tL : TD K mg "load_of" fL) : FnOk P w K mg base CX0 3 f fd ["self", "grade"] (spM N C Pt 1 fun xs => .load (xs.getD 0 0)) := by
  refine F.ok scLd (fun vs H Q E h => ?_) (fun cdv A outer s H vs Q E hr h => ?_)
  · obtain ⟨a, l, as, n, xs, rfl, hx, _⟩ := h
    simp [hx]
  · obtain ⟨a, l, as, n, xs, rfl, hx, Nt, hv, hT, k⟩ := h
    obtain ⟨g, rfl⟩ : ∃ x, xs = [x] := match xs, hx with
      | [x], _ => ⟨x, rfl⟩
    replace k : ∀ H' p l' as', NetAt N C H' a l' as' (Kqk3.step (some n) (.load g)).1 → Tabs (TT Pt) H' → Kept H H' a l as → News H l as l' as' → Fresh H p → H' p = some (.lst ((ans (Kqk3.step (some n) (.load g)).2).map V.int)) → Q (.ref p) H' := k
    have hs : Kqk3.step (some n) (.load g) = (some n, if g < 1 ∨ n.gradeCount < g then .value (-22) else .value (Kqk3.load n (Kqk3.allUsersSet n) g)) := rfl
    refine ⟨_, pss_cons (ps_if (PW.pt (pw_or (pt_cmpR op_lt (pv 1) pe_int (nomark _)) (pw_or1 (pt_cmpR op_gt (pv 1) (pe_fld (pv 0) rfl) (nomark _))))) (pss_one (ps_ret (pe_lst (pa_cons (pcon (-22) (by rfl) T.cOR) pa_nil)))) pss_nil)
      (pss_one (ps_ret (pe_lst (pa_cons (pe_call GL hr (by rfl) tL.g tL.k bL .nil pass0 (pa_cons (pe_fld (pv 0) rfl) (pa_cons (pv 1) pa_nil))) pa_nil)))), ?_⟩
    obtain ⟨⟨dx, ho⟩, U, nd⟩ := id Nt
    refine ⟨_, rfl, _, _, rfl, rfl, _, rfl, ?_⟩
    have d1 : decide ((g : Int) < 1) = decide (g < 1) := dec_lt g 1
    rw [d1]
    by_cases h1 : g < 1
    · rw [if_pos (.inl h1)] at hs
      rw [decide_eq_true h1]
      exact iteT (iteT ⟨one_le, same_end (zs := [-22]) (step_same hs rfl).1 (step_same hs rfl).2 (Same.refl H) Nt hT k⟩)
    rw [decide_eq_false h1]
    refine iteF ⟨_, rfl, rd_gc T rfl ho ⟨_, _, rfl, rfl, _, rfl, ?_⟩⟩
    rw [dec_lt]
    by_cases h2 : gcOf (some n) < g
    · rw [if_pos (.inr h2)] at hs
      rw [decide_eq_true h2]
      exact iteT ⟨one_le, same_end (zs := [-22]) (step_same hs rfl).1 (step_same hs rfl).2 (Same.refl H) Nt hT k⟩
    rw [decide_eq_false h2]
    rw [if_neg (fun z => z.elim h1 h2), load_all] at hs
    refine iteF ⟨_, rfl, a, N, dx, _, _, rfl, ho, T.cl, T.nU, nF_u _ _, _, rfl, l, as, n.users, g, rfl, U, hv.u8, fun H1 s1 => ⟨one_le, ?_⟩⟩
    exact same_end (zs := [(ucnt n.users g : Int)]) (step_same hs rfl).1 (step_same hs rfl).2 s1 Nt hT k
end
end HD

set_option Elab.async false
set_option linter.all false
set_option maxRecDepth 100000
set_option maxHeartbeats 2000000
namespace HD
open PySem PySem.Spec PyProof.Rows L2 LamX SL HC
open Kqk3 (User Network Request)
abbrev sPeakM : Stmt := sNet 11
abbrev sGradeM : Stmt := sNet 12
abbrev sMin : Stmt := sNet 13
abbrev sAsM : Stmt := sNet 14
/-- as same_end, where tables may have grown, the answer standing at p already -/
theorem ext_end {H H1 : Hp} {Q : VK} {N C Pt a l : Addr} {as : List Addr} {n : Network} {q : Request} {r : Kqk3.Result} {zs : List Int} (hq : Kqk3.step (some n) q = (some n, r)) (hz : ans r = zs) (e : ExtN H H1) (t : Tabs (TT Pt) H1) (Nt : NetAt N C H a l as (some n))
    (k : ∀ H' p l' as', NetAt N C H' a l' as' (Kqk3.step (some n) q).1 → Tabs (TT Pt) H' → Kept H H' a l as → News H l as l' as' → Fresh H p → H' p = some (.lst ((ans (Kqk3.step (some n) q).2).map V.int)) → Q (.ref p) H') (p : Addr) (hp : Fresh H p) (h1 : H1 p = some (.lst (zs.map V.int))) : Q (.ref p) H1 := by
  rw [hq] at k
  exact k _ p l as (Nt.extN e) t (Kept.of e) (News.refl _ _ _) hp (by rw [h1, hz])
section
variable {P : Program} {w : World} {K : PySem.W.Frag} {mg : Str → Option Value} {base : Heap} {C N Pt : Addr}
theorem scLi : FnScope ["self", "listed", "user"] ["self"] (defScope sList) := ⟨rfl, rfl, rfl, by decide +kernel, rfl, by decide +kernel, by decide +kernel⟩
theorem ok_list {f : Addr} {fd : FuncData} (F : Fun K "list_users" "Network.list_users" sList f fd) (T : TN K mg N) (B : TB mg) (Tu : TU K mg C) : FnOk P w K mg base CX0 1 f fd ["self"] (spM N C Pt 0 fun _ => .listUsers) := by
  refine F.ok scLi (fun vs H Q E h => ?_) (fun cdv A outer s H vs Q E hr h => ?_)
  · obtain ⟨a, l, as, n, xs, rfl, hx, _⟩ := h
    simp [hx]
  · obtain ⟨a, l, as, n, xs, rfl, hx, Nt, hv, hT, k⟩ := h
    obtain rfl : xs = [] := List.eq_nil_of_length_eq_zero hx
    refine ⟨_, pss_cons (ps_set (i := 1) scLi.nd rfl (Or.inl rfl) (pe_lst (pa_cons (pe_callB call_len_r (by rfl) B.len PySem.boot_len (pa_cons (pe_fld (pv 0) rfl) pa_nil)) pa_nil)))
      (pss_cons (ps_for PassesOwn.never rfl (pi_list (pe_fld (pv 0) rfl)) (pg_name (i := 2) scLi.nd rfl (Or.inl rfl))
        (pss_one (ps_expr (pe_bm PySem.F.plainAttrs_list PySem.F.slot_list_extend PySem.F.type_list_extend mt_extend (pv 1) (pa_cons (pe_lst (pa_cons (pe_fld (pv 2) rfl) (pa_cons (pe_fld (pv 2) rfl) (pa_cons (pe_fld (pv 2) rfl) pa_nil)))) pa_nil)))))
      (pss_one (ps_ret (pv 1)))), ?_⟩
    obtain ⟨⟨dx, ho⟩, U, nd⟩ := id Nt
    refine rd_len T (C := C) rfl ho U ⟨one_le, fun q hq => ?_⟩
    have s0 : Same H (upd H q (.lst [vI (usOf (some n)).length])) := fun b o h => by
      rw [upd_ne (ne_of_none h hq)]
      exact h
    refine ⟨_, rfl, a, N, dx, _, _, rfl, s0 _ _ ho, T.cl, T.nU, nF_u _ _, l, rfl, ⟨_, SqL.of (s0 _ _ U.lst)⟩, ?_⟩
    refine for_list (K := K) (a := l) (xs := as.map V.ref) (fun i σ' H' => ∃ u, σ' = [some (.ref a), some (.ref q), u] ∧ Same H H' ∧ H' q = some (.lst (vI n.users.length :: (n.users.take i).flatMap fun u => [vI u.supply, vI u.returned, vI u.value])))
      ⟨_, rfl, s0, upd_same⟩ (fun i σ' H' _ ⟨_, _, sm, _⟩ => sm.seq (SqL.of U.lst)) ?_ ?_
    · rintro i x σ' H' hx ⟨u0, rfl, sm, hA⟩
      obtain ⟨b, hb, rfl⟩ := map_get hx
      obtain ⟨u, hu, dz, hub⟩ := U.at_ i b hb
      have hub := sm _ _ hub
      have hi : i < n.users.length := (List.getElem?_eq_some_iff.mp hu).1
      have h8 := hv.u8
      refine ⟨_, rfl, .inl ⟨rfl, _, SqL.of hA⟩, _, rfl, b, C, dz, _, _, rfl, hub, Tu.cl, Tu.nS, uF_s u, _, rfl, b, C, dz, _, _, rfl, hub, Tu.cl, Tu.nR, uF_r u, _, rfl, b, C, dz, _, _, rfl, hub, Tu.cl, Tu.nV, uF_v u, (by show 3 ≤ sizeLine; decide), fun r hr => ?_⟩
      have nqr : q ≠ r := ne_of_none hA hr
      refine ⟨q, r, _, _, rfl, rfl, (by rw [upd_ne nqr]; exact hA), upd_same, ?_, _, rfl, fun b o e => ?_, ?_⟩
      · have hfl : ((n.users.take i).flatMap fun u => [vI u.supply, vI u.returned, vI u.value]).length = 3 * (n.users.take i).length := by
          generalize n.users.take i = us
          induction us with
          | nil => rfl
          | cons y us ih =>
            rw [List.flatMap_cons, List.length_append, ih]
            simp only [List.length_cons, List.length_nil]
            omega
        have htk : (n.users.take i).length ≤ i := List.length_take_le _ _
        refine Nat.le_of_lt (small1000 ?_)
        simp only [List.length_cons, List.length_nil]
        rw [hfl]
        omega
      · rw [upd_ne (ne_of_none e hq), upd_ne (ne_of_none (sm _ _ e) hr)]
        exact sm _ _ e
      · rw [upd_same, take_snoc (show n.users[i]? = some u from hu), List.flatMap_append]
        rfl
    · rintro σ' H' ⟨u0, rfl, sm, hA⟩
      rw [List.length_map, show as.length = n.users.length from U.len, List.take_length] at hA
      refine ⟨_, rfl, ?_⟩
      refine ext_end (zs := (n.users.length : Int) :: Kqk3.ints (n.users.flatMap fun u => [u.supply, u.returned, u.value])) (q := .listUsers) rfl rfl (ExtN.of sm) (hT.ext sm) Nt k q (Fresh.of hq) ?_
      rw [hA]
      congr 2
      show _ :: _ = _ :: _
      congr 1
      unfold Kqk3.ints
      rw [List.map_map, List.map_flatMap]
      rfl
theorem scPk : FnScope ["self"] ["self"] (defScope sPeakM) := ⟨rfl, rfl, rfl, by decide +kernel, rfl, by decide +kernel, by decide +kernel⟩
theorem ok_peakM {f fP : Addr} {fd fdP : FuncData} (F : Fun K "peak_load" "Network.peak_load" sPeakM f fd) (T : TN K mg N) (GP : FnOk P w K mg base CX0 3 fP fdP ["users", "grade_count"] (spPeak C)) (bP : Binds K fdP ["users", "grade_count"] []) (tP : TD K mg "peak_load_of" fP) :
    FnOk P w K mg base CX0 4 f fd ["self"] (spM N C Pt 0 fun _ => .peakLoad) := by
  refine F.ok scPk (fun vs H Q E h => ?_) (fun cdv A outer s H vs Q E hr h => ?_)
  · obtain ⟨a, l, as, n, xs, rfl, hx, _⟩ := h
    simp [hx]
  · obtain ⟨a, l, as, n, xs, rfl, hx, Nt, hv, hT, k⟩ := h
    obtain rfl : xs = [] := List.eq_nil_of_length_eq_zero hx
    refine ⟨_, pss_one (ps_ret (pe_lst (pa_cons (pe_call GP hr (by rfl) tP.g tP.k bP .nil pass0 (pa_cons (pe_fld (pv 0) rfl) (pa_cons (pe_fld (pv 0) rfl) pa_nil))) pa_nil))), ?_⟩
    obtain ⟨⟨dx, ho⟩, U, nd⟩ := id Nt
    refine ⟨_, rfl, a, N, dx, _, _, rfl, ho, T.cl, T.nU, nF_u _ _, _, rfl, a, N, dx, _, _, rfl, ho, T.cl, T.nG, nF_g _ _, l, as, n.users, n.gradeCount, rfl, U, hv.u8, hv.g1, hv.g12, fun H1 s1 => ⟨one_le, ?_⟩⟩
    have hs : Kqk3.step (some n) .peakLoad = (some n, .value (peakOf n.users n.gradeCount)) := by
      show (some n, Kqk3.Result.value (Kqk3.peakLoad n (Kqk3.allUsersSet n))) = _
      rw [peak_all]
    exact same_end (q := .peakLoad) (zs := [(peakOf n.users n.gradeCount : Int)]) (step_same hs rfl).1 (step_same hs rfl).2 s1 Nt hT k
theorem scPg : FnScope ["self"] ["self"] (defScope sGradeM) := ⟨rfl, rfl, rfl, by decide +kernel, rfl, by decide +kernel, by decide +kernel⟩
theorem ok_gradeM {f fG : Addr} {fd fdG : FuncData} (F : Fun K "peak_grade" "Network.peak_grade" sGradeM f fd) (T : TN K mg N) (GG : FnOk P w K mg base CX0 4 fG fdG ["users", "grade_count"] (spGrade C)) (bG : Binds K fdG ["users", "grade_count"] []) (tG : TD K mg "peak_grade_of" fG) :
    FnOk P w K mg base CX0 5 f fd ["self"] (spM N C Pt 0 fun _ => .peakGrade) := by
  refine F.ok scPg (fun vs H Q E h => ?_) (fun cdv A outer s H vs Q E hr h => ?_)
  · obtain ⟨a, l, as, n, xs, rfl, hx, _⟩ := h
    simp [hx]
  · obtain ⟨a, l, as, n, xs, rfl, hx, Nt, hv, hT, k⟩ := h
    obtain rfl : xs = [] := List.eq_nil_of_length_eq_zero hx
    refine ⟨_, pss_one (ps_ret (pe_lst (pa_cons (pe_call GG hr (by rfl) tG.g tG.k bG .nil pass0 (pa_cons (pe_fld (pv 0) rfl) (pa_cons (pe_fld (pv 0) rfl) pa_nil))) pa_nil))), ?_⟩
    obtain ⟨⟨dx, ho⟩, U, nd⟩ := id Nt
    refine ⟨_, rfl, a, N, dx, _, _, rfl, ho, T.cl, T.nU, nF_u _ _, _, rfl, a, N, dx, _, _, rfl, ho, T.cl, T.nG, nF_g _ _, l, as, n.users, n.gradeCount, rfl, U, hv.u8, hv.g1, hv.g12, fun H1 g s1 hg h1 h2 => ⟨one_le, ?_⟩⟩
    have hs : Kqk3.step (some n) .peakGrade = (some n, .value ((g + 1 : Nat) : Int)) := by
      show (some n, match Kqk3.peakGradeOf n with
        | none => Kqk3.Result.value (-33)
        | some grade => .value grade) = _
      rw [peakGrade_is hg h1 h2]
    exact same_end (q := .peakGrade) (zs := [((g + 1 : Nat) : Int)]) (step_same hs rfl).1 (step_same hs rfl).2 s1 Nt hT k
end
end HD

set_option Elab.async false
set_option linter.all false
set_option maxRecDepth 100000
set_option maxHeartbeats 2000000
namespace HD
open PySem PySem.Spec PyProof.Rows L2 LamX SL HC
open Kqk3 (User Network Request)
theorem casc_is {n : Network} (hv : Valid n) (set : Nat) : Kqk3.cascades n set = cascAll n.users ((Kqk3.members n set).mergeSort (leBy n.users)) [] := by
  rw [cascades_are, sort_is n set fun i hi => ?_]
  have hm : usr n.users i ∈ n.users := by
    unfold usr
    rw [List.getD_eq_getElem?_getD, List.getElem?_eq_getElem hi]
    exact List.getElem_mem hi
  exact (hv.us _ hm).2.1
theorem mem_lt {set m i : Nat} (h : i ∈ mem set m) : i < m := List.mem_range.mp (List.mem_filter.mp h).1
theorem mem_len (set m : Nat) : (mem set m).length ≤ m := by
  have z := List.length_filter_le (fun i => decide (set / 2 ^ i % 2 = 1)) (List.range m)
  rw [List.length_range] at z
  exact z
section
variable {P : Program} {w : World} {K : PySem.W.Frag} {mg : Str → Option Value} {base : Heap} {C N Pt : Addr}
theorem scMi : FnScope ["self", "everyone"] ["self"] (defScope sMin) := ⟨rfl, rfl, rfl, by decide +kernel, rfl, by decide +kernel, by decide +kernel⟩
theorem ok_min {f fA : Addr} {fd fdA : FuncData} (F : Fun K "min_cascades" "Network.min_cascades" sMin f fd) (T : TN K mg N) (B : TB mg) (GA : FnOk P w K mg base CX0 4 fA fdA ["users", "members"] (spAssign C Pt)) (bA : Binds K fdA ["users", "members"] []) (tA : TD K mg "assignment_of" fA) :
    FnOk P w K mg base CX0 5 f fd ["self"] (spM N C Pt 0 fun _ => .minCascades) := by
  refine F.ok scMi (fun vs H Q E h => ?_) (fun cdv A outer s H vs Q E hr h => ?_)
  · obtain ⟨a, l, as, n, xs, rfl, hx, _⟩ := h
    simp [hx]
  · obtain ⟨a, l, as, n, xs, rfl, hx, Nt, hv, hT, k⟩ := h
    obtain rfl : xs = [] := List.eq_nil_of_length_eq_zero hx
    refine ⟨_, pss_cons (ps_set (i := 1) scMi.nd rfl (Or.inl rfl) (pe_listRg rfl (by rfl) B.list (prg_1 (by rfl) B.range (pe_callB call_len_r (by rfl) B.len PySem.boot_len (pa_cons (pe_fld (pv 0) rfl) pa_nil)))))
      (pss_one (ps_ret (pe_lst (pa_cons (pe_callB call_len_r (by rfl) B.len PySem.boot_len (pa_cons (pe_call GA hr (by rfl) tA.g tA.k bA .nil pass0 (pa_cons (pe_fld (pv 0) rfl) (pa_cons (pv 1) pa_nil))) pa_nil)) pa_nil)))), ?_⟩
    obtain ⟨⟨dx, ho⟩, U, nd⟩ := id Nt
    have h8 := hv.u8
    refine rd_len T (C := C) rfl ho U ⟨_, rfl, RgOk.of_le (by omega) ?_ (by omega) (by omega), fun q hq => ?_⟩
    · show (n.users.length : Int) ≤ _
      omega
    have er : rgV 0 ((usOf (some n)).length : Int) = (List.range n.users.length).map vI := by
      unfold rgV
      have e1 : (((usOf (some n)).length : Int) - 0).toNat = n.users.length := by show ((n.users.length : Int) - 0).toNat = _; omega
      rw [e1]
      exact List.map_congr_left fun i _ => by
        show V.int (0 + (i : Int)) = V.int (i : Int)
        rw [Int.zero_add]
    rw [er]
    have s0 : Same H (upd H q (.lst ((List.range n.users.length).map vI))) := fun b o h => by
      rw [upd_ne (ne_of_none h hq)]
      exact h
    refine ⟨_, rfl, a, N, dx, _, _, rfl, s0 _ _ ho, T.cl, T.nU, nF_u _ _, _, rfl, l, q, as, n.users, List.range n.users.length, rfl, U.same s0, upd_same, by rw [List.length_range]; exact h8, fun i hi => List.mem_range.mp hi, hT.ext s0, fun H1 lc cas e1 t1 Cs _ hc8 => ?_⟩
    have hlen : (cas.map V.ref).length = (Kqk3.cascades n (Kqk3.allUsersSet n)).length := by
      rw [List.length_map, Cs.len, casc_is hv, members_all]
    refine ⟨lc, _, rfl, .inl (SqL.of Cs.lst), one_le, fun p hp => ?_⟩
    have s2 : Same H1 (upd H1 p (.lst [V.int (((cas.map V.ref).length : Nat) : Int)])) := fun b o h => by
      rw [upd_ne (ne_of_none h hp)]
      exact h
    have e3 : ExtN H H1 := fun b o h nt => e1 b o (s0 _ _ h) nt
    refine ext_end (zs := [((Kqk3.cascades n (Kqk3.allUsersSet n)).length : Int)]) (q := .minCascades) rfl rfl (ext_same e3 s2) (t1.ext s2) Nt k p (Fresh.ext e3 hp) ?_
    rw [upd_same, hlen]
    rfl
theorem scAm : FnScope ["self", "user_set", "cascades", "told", "cascade"] ["self", "user_set"] (defScope sAsM) := ⟨rfl, rfl, rfl, by decide +kernel, rfl, by decide +kernel, by decide +kernel⟩
theorem two_pow (m : Nat) : ((2 : Int) ^ m) = ((2 ^ m : Nat) : Int) := by
  rw [Int.natCast_pow]
  rfl
theorem ok_assignM {f fA fM fS : Addr} {fd fdA fdM dS : FuncData} (F : Fun K "assign_cascades" "Network.assign_cascades" sAsM f fd) (T : TN K mg N) (B : TB mg) (GS : FnOk P w K mg base CX0 1 fS dS ["self", "user_set"] (spHasS N C)) (bS : Binds K dS ["self", "user_set"] []) (MS : Meth K N "has_users_of" fS) (GA : FnOk P w K mg base CX0 4 fA fdA ["users", "members"] (spAssign C Pt)) (bA : Binds K fdA ["users", "members"] []) (tA : TD K mg "assignment_of" fA)
    (GM : FnOk P w K mg base CX0 1 fM fdM ["user_set", "user_count"] spMembers) (bM : Binds K fdM ["user_set", "user_count"] []) (tM : TD K mg "members_of" fM) : FnOk P w K mg base CX0 5 f fd ["self", "user_set"] (spM N C Pt 1 fun xs => .assignCascades (xs.getD 0 0)) := by
  refine F.ok scAm (fun vs H Q E h => ?_) (fun cdv A outer s H vs Q E hr h => ?_)
  · obtain ⟨a, l, as, n, xs, rfl, hx, _⟩ := h
    simp [hx]
  · obtain ⟨a, l, as, n, xs, rfl, hx, Nt, hv, hT, k⟩ := h
    obtain ⟨set, rfl⟩ : ∃ x, xs = [x] := match xs, hx with
      | [x], _ => ⟨x, rfl⟩
    replace k : ∀ H' p l' as', NetAt N C H' a l' as' (Kqk3.step (some n) (.assignCascades set)).1 → Tabs (TT Pt) H' → Kept H H' a l as → News H l as l' as' → Fresh H p → H' p = some (.lst ((ans (Kqk3.step (some n) (.assignCascades set)).2).map V.int)) → Q (.ref p) H' := k
    have hs : Kqk3.step (some n) (.assignCascades set) = (some n, if Kqk3.isSet n set = false then .value (-2) else .values (Kqk3.cascades n set).length ((Kqk3.cascades n set).flatMap fun c => (c.length : Int) :: Kqk3.ints c)) := rfl
    refine ⟨_, pss_cons (ps_if (pt_not (pt_val (pe_meth (pv 0) T.cl MS GS (hr.mono (by decide)) bS .nil pass0 (pa_cons (pv 1) pa_nil)))) (pss_one (ps_ret (pe_lst (pa_cons (pcon (-2) (by rfl) T.cNU) pa_nil)))) pss_nil)
      (pss_cons (ps_set (i := 2) scAm.nd rfl (Or.inl rfl) (pe_call GA hr (by rfl) tA.g tA.k bA .nil pass0 (pa_cons (pe_fld (pv 0) rfl) (pa_cons (pe_call GM (hr.mono (by decide)) (by rfl) tM.g tM.k bM .nil pass0 (pa_cons (pv 1) (pa_cons (pe_callB call_len_r (by rfl) B.len PySem.boot_len (pa_cons (pe_fld (pv 0) rfl) pa_nil)) pa_nil))) pa_nil))))
      (pss_cons (ps_set (i := 3) scAm.nd rfl (Or.inl rfl) (pe_lst (pa_cons (pe_callB call_len_r (by rfl) B.len PySem.boot_len (pa_cons (pv 2) pa_nil)) pa_nil)))
      (pss_cons (ps_for PassesOwn.never rfl (pi_list (pv 2)) (pg_name (i := 4) scAm.nd rfl (Or.inl rfl))
        (pss_cons (ps_expr (pe_bm PySem.F.plainAttrs_list PySem.F.slot_list_append PySem.F.type_list_append mt_append (pv 3) (pa_cons (pe_callB call_len_r (by rfl) B.len PySem.boot_len (pa_cons (pv 4) pa_nil)) pa_nil)))
        (pss_one (ps_expr (pe_bm PySem.F.plainAttrs_list PySem.F.slot_list_extend PySem.F.type_list_extend mt_extend (pv 3) (pa_cons (pv 4) pa_nil))))))
      (pss_one (ps_ret (pv 3)))))), ?_⟩
    obtain ⟨⟨dx, ho⟩, U, nd⟩ := id Nt
    have h8 := hv.u8
    have h8' : (usOf (some n)).length ≤ 8 := h8
    refine ⟨_, rfl, a, dx, _, rfl, ho, nF_none (by decide +kernel) (by decide +kernel) _ _, _, rfl, a, l, as, n, set, rfl, Nt, hv, _, rfl, ?_⟩
    cases hi : Kqk3.isSet n set with
    | false =>
      rw [if_pos hi] at hs
      exact by_t (not_t rfl) ⟨one_le, same_end (zs := [-2]) (step_same hs rfl).1 (step_same hs rfl).2 (Same.refl H) Nt hT k⟩
    | true =>
    refine by_f (not_f rfl) ?_
    rw [if_neg (by rw [hi]; decide)] at hs
    refine ⟨_, rfl, a, N, dx, _, _, rfl, ho, T.cl, T.nU, nF_u _ _, _, rfl, rd_len T (C := C) rfl ho U ⟨set, n.users.length, rfl, h8, fun H1 m s1 nm hm => ?_⟩⟩
    refine ⟨l, m, as, n.users, mem set n.users.length, rfl, U.same s1, hm, Nat.le_trans (mem_len _ _) h8, fun i hi => mem_lt hi, hT.ext s1, fun H2 lc cas e2 t2 Cs hc hc8 => ?_⟩
    have ec : cascAll n.users ((mem set n.users.length).mergeSort (leBy n.users)) [] = Kqk3.cascades n set := (casc_is hv set).symm
    rw [ec] at Cs hc hc8
    generalize hcs : Kqk3.cascades n set = cs at Cs hc hc8 hs
    have hlen : (cas.map V.ref).length = cs.length := by rw [List.length_map, Cs.len]
    refine ⟨_, rfl, lc, _, rfl, .inl (SqL.of Cs.lst), one_le, fun t ht => ?_⟩
    have et : V.int (((cas.map V.ref).length : Nat) : Int) = vI cs.length := by rw [hlen]
    rw [et]
    have s3 : Same H2 (upd H2 t (.lst [vI cs.length])) := fun b o h => by
      rw [upd_ne (ne_of_none h ht)]
      exact h
    have e3 : ExtN H H2 := fun b o h nt => e2 b o (s1 _ _ h) nt
    refine ⟨_, rfl, lc, rfl, ⟨_, s3.seq (SqL.of Cs.lst)⟩, for_list (K := K) (a := lc) (xs := cas.map V.ref) (fun i σ' H' => ∃ u, σ' = [some (.ref a), some (vI set), some (.ref lc), some (.ref t), u] ∧ Same H2 H' ∧ H' t = some (.lst (vI cs.length :: (cs.take i).flatMap fun c => vI c.length :: c.map vI)) ∧ ((cs.take i).flatMap fun c => vI c.length :: c.map vI).length ≤ 9 * i)
      ⟨_, rfl, s3, upd_same, Nat.le_refl _⟩ (fun i σ' H' _ ⟨_, _, sm, _⟩ => sm.seq (SqL.of Cs.lst)) ?_ ?_⟩
    · rintro i x σ' H' hx ⟨u0, rfl, sm, hA, hl9⟩
      obtain ⟨b, hb, rfl⟩ := map_get hx
      obtain ⟨c, hcc, hcb0⟩ := Cs.at_ i b hb
      have hcb := sm _ _ hcb0
      have hcl := hc c (List.mem_of_getElem? hcc)
      have hi8 : i < cs.length := (List.getElem?_eq_some_iff.mp hcc).1
      have ntb : b ≠ t := ne_of_none hcb0 ht
      refine ⟨_, rfl, .inl ⟨rfl, _, SqL.of hA⟩, _, rfl, b, _, rfl, .inl (SqL.of hcb), t, _, _, rfl, rfl, hA, small1000 (by rw [List.length_cons]; omega), ?_⟩
      refine ⟨_, rfl, .inl ⟨rfl, _, SqL.of upd_same⟩, _, rfl, t, b, _, _, rfl, rfl, upd_same, (by rw [upd_ne ntb]; exact hcb), Nat.le_of_lt (small1000 (by rw [List.length_append, List.length_cons, List.length_map]; show _ + 1 + 1 + _ ≤ _; omega)), _, rfl, fun b' o e => ?_, ?_, ?_⟩
      · have n1 : b' ≠ t := ne_of_none e ht
        rw [upd_ne n1, upd_ne n1]
        exact sm _ _ e
      · rw [upd_same, take_snoc hcc, List.flatMap_append]
        congr 2
        rw [List.length_map]
        simp
      · rw [take_snoc hcc, List.flatMap_append, List.length_append]
        simp only [List.flatMap_cons, List.flatMap_nil, List.append_nil, List.length_cons, List.length_map]
        omega
    · rintro σ' H' ⟨u0, rfl, sm, hA, _⟩
      rw [List.length_map, Cs.len, List.take_length] at hA
      refine ⟨_, rfl, ?_⟩
      refine ext_end (zs := (cs.length : Int) :: cs.flatMap fun c => (c.length : Int) :: Kqk3.ints c) hs rfl (ext_same e3 sm) (t2.ext sm) Nt k t (Fresh.ext e3 ht) ?_
      rw [hA]
      congr 2
      show _ :: _ = _ :: _
      congr 1
      rw [List.map_flatMap]
      congr 1
      funext c
      show _ :: _ = _ :: _
      congr 1
      unfold Kqk3.ints
      rw [List.map_map]
      rfl
end
end HD

set_option Elab.async false
set_option linter.all false
set_option maxRecDepth 100000
set_option maxHeartbeats 2000000
namespace HD
open PySem PySem.Spec PyProof.Rows L2 LamX SL HC
open Kqk3 (User Network Request)
abbrev sServ : Stmt := sNet 15
abbrev sBestM : Stmt := sNet 16
abbrev sValM : Stmt := sNet 17
abbrev sMarg : Stmt := sNet 18
theorem one_if {b : Bool} {p : Prop} [Decidable p] (h : b = decide p) : (if b = true then (1 : Int) else 0) = if p then 1 else 0 := by
  subst h
  by_cases hp : p
  · rw [if_pos hp, if_pos (decide_eq_true hp)]
  · rw [if_neg hp, if_neg (by simpa using hp)]
section
variable {P : Program} {w : World} {K : PySem.W.Frag} {mg : Str → Option Value} {base : Heap} {C N Pt : Addr}
theorem scSe : FnScope ["self", "user_set", "cascade_count"] ["self", "user_set", "cascade_count"] (defScope sServ) := ⟨rfl, rfl, rfl, by decide +kernel, rfl, by decide +kernel, by decide +kernel⟩
theorem ok_serv {f fP fS : Addr} {fd fdP dS : FuncData} (F : Fun K "is_servable" "Network.is_servable" sServ f fd) (T : TN K mg N) (B2 : TB2 mg) (GS : FnOk P w K mg base CX0 1 fS dS ["self", "user_set"] (spHasS N C)) (bS : Binds K dS ["self", "user_set"] []) (MS : Meth K N "has_users_of" fS)
    (GP : FnOk P w K mg base CX0 4 fP fdP ["users", "grade_count", "user_set"] (spPeakSet C)) (bP : Binds K fdP ["users", "grade_count", "user_set"] []) (tP : TD K mg "peak_load_of_set" fP) :
    FnOk P w K mg base CX0 5 f fd ["self", "user_set", "cascade_count"] (spM N C Pt 2 fun xs => .isServable (xs.getD 0 0) (xs.getD 1 0)) := by
  refine F.ok scSe (fun vs H Q E h => ?_) (fun cdv A outer s H vs Q E hr h => ?_)
  · obtain ⟨a, l, as, n, xs, rfl, hx, _⟩ := h
    simp [hx]
  · obtain ⟨a, l, as, n, xs, rfl, hx, Nt, hv, hT, k⟩ := h
    obtain ⟨set, c, rfl⟩ : ∃ x y, xs = [x, y] := match xs, hx with
      | [x, y], _ => ⟨x, y, rfl⟩
    replace k : ∀ H' p l' as', NetAt N C H' a l' as' (Kqk3.step (some n) (.isServable set c)).1 → Tabs (TT Pt) H' → Kept H H' a l as → News H l as l' as' → Fresh H p → H' p = some (.lst ((ans (Kqk3.step (some n) (.isServable set c)).2).map V.int)) → Q (.ref p) H' := k
    have hs : Kqk3.step (some n) (.isServable set c) = (some n, if Kqk3.isSet n set = false then .value (-2) else Kqk3.flag (Kqk3.peakLoad n set ≤ c)) := rfl
    refine ⟨_, pss_cons (ps_if (pt_not (pt_val (pe_meth (pv 0) T.cl MS GS (hr.mono (by decide)) bS .nil pass0 (pa_cons (pv 1) pa_nil)))) (pss_one (ps_ret (pe_lst (pa_cons (pcon (-2) (by rfl) T.cNU) pa_nil)))) pss_nil)
      (pss_one (ps_ret (pe_lst (pa_cons (pe_callTy call_int1 (by rfl) B2.int boot_int (pa_cons (pe_cmpR op_le (pe_call GP hr (by rfl) tP.g tP.k bP .nil pass0 (pa_cons (pe_fld (pv 0) rfl) (pa_cons (pe_fld (pv 0) rfl) (pa_cons (pv 1) pa_nil)))) (pv 2) (nomark _)) pa_nil)) pa_nil)))), ?_⟩
    obtain ⟨⟨dx, ho⟩, U, nd⟩ := id Nt
    refine ⟨_, rfl, a, dx, _, rfl, ho, nF_none (by decide +kernel) (by decide +kernel) _ _, _, rfl, a, l, as, n, set, rfl, Nt, hv, _, rfl, ?_⟩
    cases hi : Kqk3.isSet n set with
    | false =>
      rw [if_pos hi] at hs
      exact by_t (not_t rfl) ⟨one_le, same_end (zs := [-2]) (step_same hs rfl).1 (step_same hs rfl).2 (Same.refl H) Nt hT k⟩
    | true =>
      refine by_f (not_f rfl) ?_
      rw [if_neg (by rw [hi]; decide)] at hs
      refine ⟨_, rfl, a, N, dx, _, _, rfl, ho, T.cl, T.nU, nF_u _ _, _, rfl, a, N, dx, _, _, rfl, ho, T.cl, T.nG, nF_g _ _, _, rfl, l, as, n.users, n.gradeCount, set, rfl, U, hv.u8, hv.g1, hv.g12, fun H1 s1 => ⟨_, rfl, _, _, rfl, rfl, .inr ⟨_, rfl, one_le, ?_⟩⟩⟩
      have hp : Kqk3.peakLoad n set = peakOf (pick n.users (mem set n.users.length)) n.gradeCount := peak_is n set
      have e := one_if (p := Kqk3.peakLoad n set ≤ c) (by rw [← hp]; exact dec_le _ _ : decide ((peakOf (pick n.users (mem set n.users.length)) n.gradeCount : Int) ≤ (c : Int)) = decide (Kqk3.peakLoad n set ≤ c))
      have hz : ans (Kqk3.flag (Kqk3.peakLoad n set ≤ c)) = [if decide ((peakOf (pick n.users (mem set n.users.length)) n.gradeCount : Int) ≤ (c : Int)) = true then (1 : Int) else 0] := by
        rw [e]
        rfl
      exact same_end (step_same hs hz).1 (step_same hs hz).2 s1 Nt hT k
theorem scBm : FnScope ["self", "cascade_count"] ["self", "cascade_count"] (defScope sBestM) := ⟨rfl, rfl, rfl, by decide +kernel, rfl, by decide +kernel, by decide +kernel⟩
theorem ok_bestM {f fB : Addr} {fd fdB : FuncData} (F : Fun K "best_set" "Network.best_set" sBestM f fd) (T : TN K mg N) (T2 : TN2 mg) (B : TB mg)
    (GB : FnOk P w K mg base CX0 5 fB fdB ["users", "grade_count", "cascade_count"] (spBest C)) (bB : Binds K fdB ["users", "grade_count", "cascade_count"] []) (tB : TD K mg "best_set_of" fB) :
    FnOk P w K mg base CX0 6 f fd ["self", "cascade_count"] (spM N C Pt 1 fun xs => .bestSet (xs.getD 0 0)) := by
  refine F.ok scBm (fun vs H Q E h => ?_) (fun cdv A outer s H vs Q E hr h => ?_)
  · obtain ⟨a, l, as, n, xs, rfl, hx, _⟩ := h
    simp [hx]
  · obtain ⟨a, l, as, n, xs, rfl, hx, Nt, hv, hT, k⟩ := h
    obtain ⟨c, rfl⟩ : ∃ x, xs = [x] := match xs, hx with
      | [x], _ => ⟨x, rfl⟩
    replace k : ∀ H' p l' as', NetAt N C H' a l' as' (Kqk3.step (some n) (.bestSet c)).1 → Tabs (TT Pt) H' → Kept H H' a l as → News H l as l' as' → Fresh H p → H' p = some (.lst ((ans (Kqk3.step (some n) (.bestSet c)).2).map V.int)) → Q (.ref p) H' := k
    have hs : Kqk3.step (some n) (.bestSet c) = (some n, if 8 < c then .value (-22) else .values (Kqk3.valueOf n (Kqk3.bestSet n c)) [(Kqk3.bestSet n c : Int)]) := rfl
    refine ⟨_, pss_cons (ps_if (pt_cmpR op_gt (pv 1) (pcon 8 (by rfl) T2.cMC) (nomark _)) (pss_one (ps_ret (pe_lst (pa_cons (pcon (-22) (by rfl) T.cOR) pa_nil)))) pss_nil)
      (pss_one (ps_ret (pe_callTy call_list_of (by rfl) B.list boot_list (pa_cons (pe_call GB hr (by rfl) tB.g tB.k bB .nil pass0 (pa_cons (pe_fld (pv 0) rfl) (pa_cons (pe_fld (pv 0) rfl) (pa_cons (pv 1) pa_nil)))) pa_nil)))), ?_⟩
    obtain ⟨⟨dx, ho⟩, U, nd⟩ := id Nt
    have d1 : decide ((8 : Int) < (c : Int)) = decide (8 < c) := dec_lt 8 c
    refine ⟨_, rfl, _, _, rfl, rfl, _, rfl, ?_⟩
    by_cases h1 : 8 < c
    · rw [if_pos h1] at hs
      exact by_t (d1.trans (decide_eq_true h1)) ⟨one_le, same_end (zs := [-22]) (step_same hs rfl).1 (step_same hs rfl).2 (Same.refl H) Nt hT k⟩
    · rw [if_neg h1] at hs
      refine by_f (d1.trans (decide_eq_false h1)) ?_
      refine ⟨_, rfl, a, N, dx, _, _, rfl, ho, T.cl, T.nU, nF_u _ _, _, rfl, a, N, dx, _, _, rfl, ho, T.cl, T.nG, nF_g _ _, _, rfl, l, as, n.users, n.gradeCount, c, rfl, U, hv.u8, hv.g1, hv.g12, fun H1 p s1 hp e => ⟨p, _, rfl, .inr (SqT.of e), ?_⟩⟩
      exact same_end (zs := [(Kqk3.valueOf n (Kqk3.bestSet n c) : Int), (Kqk3.bestSet n c : Int)]) (step_same hs rfl).1 (step_same hs rfl).2 s1 Nt hT k
theorem scVm : FnScope ["self", "user_set"] ["self", "user_set"] (defScope sValM) := ⟨rfl, rfl, rfl, by decide +kernel, rfl, by decide +kernel, by decide +kernel⟩
theorem ok_valM {f fV fS : Addr} {fd fdV dS : FuncData} (F : Fun K "value_of" "Network.value_of" sValM f fd) (T : TN K mg N) (GS : FnOk P w K mg base CX0 1 fS dS ["self", "user_set"] (spHasS N C)) (bS : Binds K dS ["self", "user_set"] []) (MS : Meth K N "has_users_of" fS)
    (GV : FnOk P w K mg base CX0 2 fV fdV ["users", "user_set"] (spValue C)) (bV : Binds K fdV ["users", "user_set"] []) (tV : TD K mg "value_of_set" fV) :
    FnOk P w K mg base CX0 3 f fd ["self", "user_set"] (spM N C Pt 1 fun xs => .valueOf (xs.getD 0 0)) := by
  refine F.ok scVm (fun vs H Q E h => ?_) (fun cdv A outer s H vs Q E hr h => ?_)
  · obtain ⟨a, l, as, n, xs, rfl, hx, _⟩ := h
    simp [hx]
  · obtain ⟨a, l, as, n, xs, rfl, hx, Nt, hv, hT, k⟩ := h
    obtain ⟨set, rfl⟩ : ∃ x, xs = [x] := match xs, hx with
      | [x], _ => ⟨x, rfl⟩
    replace k : ∀ H' p l' as', NetAt N C H' a l' as' (Kqk3.step (some n) (.valueOf set)).1 → Tabs (TT Pt) H' → Kept H H' a l as → News H l as l' as' → Fresh H p → H' p = some (.lst ((ans (Kqk3.step (some n) (.valueOf set)).2).map V.int)) → Q (.ref p) H' := k
    have hs : Kqk3.step (some n) (.valueOf set) = (some n, if Kqk3.isSet n set = false then .value (-2) else .value (Kqk3.valueOf n set)) := rfl
    refine ⟨_, pss_cons (ps_if (pt_not (pt_val (pe_meth (pv 0) T.cl MS GS (hr.mono (by decide)) bS .nil pass0 (pa_cons (pv 1) pa_nil)))) (pss_one (ps_ret (pe_lst (pa_cons (pcon (-2) (by rfl) T.cNU) pa_nil)))) pss_nil)
      (pss_one (ps_ret (pe_lst (pa_cons (pe_call GV hr (by rfl) tV.g tV.k bV .nil pass0 (pa_cons (pe_fld (pv 0) rfl) (pa_cons (pv 1) pa_nil))) pa_nil)))), ?_⟩
    obtain ⟨⟨dx, ho⟩, U, nd⟩ := id Nt
    refine ⟨_, rfl, a, dx, _, rfl, ho, nF_none (by decide +kernel) (by decide +kernel) _ _, _, rfl, a, l, as, n, set, rfl, Nt, hv, _, rfl, ?_⟩
    cases hi : Kqk3.isSet n set with
    | false =>
      rw [if_pos hi] at hs
      exact by_t (not_t rfl) ⟨one_le, same_end (zs := [-2]) (step_same hs rfl).1 (step_same hs rfl).2 (Same.refl H) Nt hT k⟩
    | true =>
      refine by_f (not_f rfl) ?_
      rw [if_neg (by rw [hi]; decide)] at hs
      refine ⟨_, rfl, a, N, dx, _, _, rfl, ho, T.cl, T.nU, nF_u _ _, _, rfl, l, as, n.users, set, rfl, U, hv.u8, fun H1 s1 => ⟨one_le, ?_⟩⟩
      have e : Kqk3.valueOf n set = worth (pick n.users (mem set n.users.length)) := value_is n set
      rw [e] at hs
      exact same_end (zs := [(worth (pick n.users (mem set n.users.length)) : Int)]) (step_same hs rfl).1 (step_same hs rfl).2 s1 Nt hT k
theorem scMa : FnScope ["self", "cascade_count", "value"] ["self", "cascade_count"] (defScope sMarg) := ⟨rfl, rfl, rfl, by decide +kernel, rfl, by decide +kernel, by decide +kernel⟩
theorem ok_marg {f fB : Addr} {fd fdB : FuncData} (F : Fun K "marginal_value" "Network.marginal_value" sMarg f fd) (T : TN K mg N) (T2 : TN2 mg)
    (GB : FnOk P w K mg base CX0 6 fB fdB ["users", "grade_count", "cascade_count"] (spBestV C)) (bB : Binds K fdB ["users", "grade_count", "cascade_count"] []) (tB : TD K mg "best_value_of" fB) :
    FnOk P w K mg base CX0 7 f fd ["self", "cascade_count"] (spM N C Pt 1 fun xs => .marginalValue (xs.getD 0 0)) := by
  refine F.ok scMa (fun vs H Q E h => ?_) (fun cdv A outer s H vs Q E hr h => ?_)
  · obtain ⟨a, l, as, n, xs, rfl, hx, _⟩ := h
    simp [hx]
  · obtain ⟨a, l, as, n, xs, rfl, hx, Nt, hv, hT, k⟩ := h
    obtain ⟨c, rfl⟩ : ∃ x, xs = [x] := match xs, hx with
      | [x], _ => ⟨x, rfl⟩
    replace k : ∀ H' p l' as', NetAt N C H' a l' as' (Kqk3.step (some n) (.marginalValue c)).1 → Tabs (TT Pt) H' → Kept H H' a l as → News H l as l' as' → Fresh H p → H' p = some (.lst ((ans (Kqk3.step (some n) (.marginalValue c)).2).map V.int)) → Q (.ref p) H' := k
    have hs : Kqk3.step (some n) (.marginalValue c) = (some n, if c < 1 ∨ 8 < c then .value (-22) else .value (Kqk3.valueOf n (Kqk3.bestSet n c) - Kqk3.valueOf n (Kqk3.bestSet n (c - 1)) : Nat)) := rfl
    refine ⟨_, pss_cons (ps_if (PW.pt (pw_or (pt_cmpR op_lt (pv 1) pe_int (nomark _)) (pw_or1 (pt_cmpR op_gt (pv 1) (pcon 8 (by rfl) T2.cMC) (nomark _))))) (pss_one (ps_ret (pe_lst (pa_cons (pcon (-22) (by rfl) T.cOR) pa_nil)))) pss_nil)
      (pss_cons (ps_set (i := 2) scMa.nd rfl (Or.inl rfl) (pe_call GB hr (by rfl) tB.g tB.k bB .nil pass0 (pa_cons (pe_fld (pv 0) rfl) (pa_cons (pe_fld (pv 0) rfl) (pa_cons (pv 1) pa_nil)))))
      (pss_one (ps_ret (pe_lst (pa_cons (pe_op op_sub (pv 2) (pe_call GB hr (by rfl) tB.g tB.k bB .nil pass0 (pa_cons (pe_fld (pv 0) rfl) (pa_cons (pe_fld (pv 0) rfl) (pa_cons (pe_op op_sub (pv 1) pe_int) pa_nil))))) pa_nil))))), ?_⟩
    obtain ⟨⟨dx, ho⟩, U, nd⟩ := id Nt
    have d0 : decide ((c : Int) < 1) = decide (c < 1) := dec_lt c 1
    have d1 : decide ((8 : Int) < (c : Int)) = decide (8 < c) := dec_lt 8 c
    refine ⟨_, rfl, _, _, rfl, rfl, _, rfl, ?_⟩
    by_cases h0 : c < 1
    · rw [if_pos (.inl h0)] at hs
      exact by_t (d0.trans (decide_eq_true h0)) (by_t rfl ⟨one_le, same_end (zs := [-22]) (step_same hs rfl).1 (step_same hs rfl).2 (Same.refl H) Nt hT k⟩)
    refine by_f (d0.trans (decide_eq_false h0)) ⟨_, rfl, _, _, rfl, rfl, _, rfl, ?_⟩
    by_cases h1 : 8 < c
    · rw [if_pos (.inr h1)] at hs
      exact by_t (d1.trans (decide_eq_true h1)) ⟨one_le, same_end (zs := [-22]) (step_same hs rfl).1 (step_same hs rfl).2 (Same.refl H) Nt hT k⟩
    rw [if_neg (fun z => z.elim h0 h1)] at hs
    refine by_f (d1.trans (decide_eq_false h1)) ?_
    refine ⟨_, rfl, a, N, dx, _, _, rfl, ho, T.cl, T.nU, nF_u _ _, _, rfl, a, N, dx, _, _, rfl, ho, T.cl, T.nG, nF_g _ _, _, rfl, l, as, n.users, n.gradeCount, c, rfl, U, hv.u8, hv.g1, hv.g12, fun H1 s1 => ?_⟩
    have e1 : (c : Int) - 1 = ((c - 1 : Nat) : Int) := by omega
    have ho1 := s1 _ _ ho
    refine ⟨_, rfl, _, rfl, a, N, dx, _, _, rfl, ho1, T.cl, T.nU, nF_u _ _, _, rfl, a, N, dx, _, _, rfl, ho1, T.cl, T.nG, nF_g _ _, _, rfl, _, _, rfl, rfl, l, as, n.users, n.gradeCount, c - 1, congrArg (fun z : Int => [V.ref l, vI n.gradeCount, V.int z]) e1, U.same s1, hv.u8, hv.g1, hv.g12, fun H2 s2 => ⟨_, _, rfl, rfl, one_le, ?_⟩⟩
    have hle := best_mono n (Nat.sub_le c 1)
    have hz : ans (.value (Kqk3.valueOf n (Kqk3.bestSet n c) - Kqk3.valueOf n (Kqk3.bestSet n (c - 1)) : Nat)) = [(Kqk3.valueOf n (Kqk3.bestSet n c) : Int) - (Kqk3.valueOf n (Kqk3.bestSet n (c - 1)) : Int)] := by
      rw [← Int.natCast_sub hle]
      rfl
    exact same_end (step_same hs hz).1 (step_same hs hz).2 (s1.trans s2) Nt hT k
end
end HD

set_option Elab.async false
set_option linter.all false
set_option maxRecDepth 100000
set_option maxHeartbeats 2000000
namespace HD
open PySem PySem.Spec PyProof.Rows L2 LamX SL HC
open Kqk3 (User Network Request)
abbrev sCanM : Stmt := sNet 19
abbrev sPeakU : Stmt := sNet 20
abbrev sLoss : Stmt := sNet 23
abbrev sSum : Stmt := sNet 24
theorem cut_head {xs : List V} {k : Nat} (h : k ≤ xs.length) : cutV xs none (some (k : Int)) = xs.take k := by
  unfold cutV
  rw [HT.sIx_none, HT.sIx_nat, List.drop_zero, Nat.min_eq_left h]
  rfl
theorem cut_rest {xs : List V} {k : Nat} (h : k ≤ xs.length) : cutV xs (some (k : Int)) none = xs.drop k := by
  unfold cutV
  rw [HT.sIx_none, HT.sIx_nat, Nat.min_eq_left h, ← List.length_drop, List.take_length]
theorem cut_less {as : List Addr} {i : Nat} (h : i < as.length) : cutV (as.map V.ref) none (some (i : Int)) ++ cutV (as.map V.ref) (some ((i : Int) + 1)) none = (as.eraseIdx i).map V.ref := by
  have e1 : ((i : Int) + 1) = ((i + 1 : Nat) : Int) := by omega
  rw [e1, cut_head (by rw [List.length_map]; omega), cut_rest (by rw [List.length_map]; omega), ← er_map, List.eraseIdx_eq_take_drop_succ]
theorem UsersAt.less {C : Addr} {H H' : Hp} {l D : Addr} {as : List Addr} {us : List User} {i : Nat} (U : UsersAt C H l as us) (s : Same H H') (hD : H' D = some (.lst ((as.eraseIdx i).map V.ref))) (hi : i < us.length) : UsersAt C H' D (as.eraseIdx i) (us.eraseIdx i) := by
  refine ⟨hD, by rw [List.length_eraseIdx, List.length_eraseIdx, U.len], fun j a h => ?_⟩
  rw [List.getElem?_eraseIdx] at h ⊢
  split
  · rename_i hj
    rw [if_pos hj] at h
    obtain ⟨u, h1, h2⟩ := U.at_ j a h
    exact ⟨u, h1, h2.same s⟩
  · rename_i hj
    rw [if_neg hj] at h
    obtain ⟨u, h1, h2⟩ := U.at_ (j + 1) a h
    exact ⟨u, h1, h2.same s⟩
section
variable {P : Program} {w : World} {K : PySem.W.Frag} {mg : Str → Option Value} {base : Heap} {C N Pt : Addr}
theorem scCm : FnScope ["self", "user", "following"] ["self", "user", "following"] (defScope sCanM) := ⟨rfl, rfl, rfl, by decide +kernel, rfl, by decide +kernel, by decide +kernel⟩
theorem ok_canM {f fH fC : Addr} {fd dH dC : FuncData} (F : Fun K "can_follow" "Network.can_follow" sCanM f fd) (T : TN K mg N) (B2 : TB2 mg) (Tu : TU K mg C) (GH : FnOk P w K mg base CX0 1 fH dH ["self", "user"] (spHasU N C)) (bH : Binds K dH ["self", "user"] []) (MH : Meth K N "has_user" fH)
    (GC : FnOk P w K mg base CX0 1 fC dC ["self", "other"] (spCan C)) (bC : Binds K dC ["self", "other"] []) (mC : Meth K C "can_follow" fC) :
    FnOk P w K mg base CX0 2 f fd ["self", "user", "following"] (spM N C Pt 2 fun xs => .canFollow (xs.getD 0 0) (xs.getD 1 0)) := by
  refine F.ok scCm (fun vs H Q E h => ?_) (fun cdv A outer s H vs Q E hr h => ?_)
  · obtain ⟨a, l, as, n, xs, rfl, hx, _⟩ := h
    simp [hx]
  · obtain ⟨a, l, as, n, xs, rfl, hx, Nt, hv, hT, k⟩ := h
    obtain ⟨i, j, rfl⟩ : ∃ x y, xs = [x, y] := match xs, hx with
      | [x, y], _ => ⟨x, y, rfl⟩
    replace k : ∀ H' p l' as', NetAt N C H' a l' as' (Kqk3.step (some n) (.canFollow i j)).1 → Tabs (TT Pt) H' → Kept H H' a l as → News H l as l' as' → Fresh H p → H' p = some (.lst ((ans (Kqk3.step (some n) (.canFollow i j)).2).map V.int)) → Q (.ref p) H' := k
    have hs : Kqk3.step (some n) (.canFollow i j) = (some n, if n.users.length ≤ i ∨ n.users.length ≤ j then .value (-2) else Kqk3.flag ((usr n.users j).supply ≤ (usr n.users i).returned)) := rfl
    refine ⟨_, pss_cons (ps_if (PW.pt (pw_or (pt_not (pt_val (pe_meth (pv 0) T.cl MH GH hr bH .nil pass0 (pa_cons (pv 1) pa_nil)))) (pw_or1 (pt_not (pt_val (pe_meth (pv 0) T.cl MH GH hr bH .nil pass0 (pa_cons (pv 2) pa_nil)))))))
        (pss_one (ps_ret (pe_lst (pa_cons (pcon (-2) (by rfl) T.cNU) pa_nil)))) pss_nil)
      (pss_one (ps_ret (pe_lst (pa_cons (pe_callTy call_int1 (by rfl) B2.int boot_int (pa_cons (pe_meth (pe_ix ix_list (pe_fld (pv 0) rfl) (pv 2) (fun _ _ => rfl)) Tu.cl mC GC hr bC .nil pass0 (pa_cons (pe_ix ix_list (pe_fld (pv 0) rfl) (pv 1) (fun _ _ => rfl)) pa_nil)) pa_nil)) pa_nil)))), ?_⟩
    obtain ⟨⟨dx, ho⟩, U, nd⟩ := id Nt
    refine ⟨_, rfl, a, dx, _, rfl, ho, nF_none (by decide +kernel) (by decide +kernel) _ _, _, rfl, a, l, as, n, i, rfl, Nt, _, rfl, ?_⟩
    by_cases h1 : n.users.length ≤ i
    · rw [if_pos (.inl h1)] at hs
      exact by_t (not_t (decide_eq_false (Nat.not_lt.mpr h1))) (by_t rfl ⟨one_le, same_end (zs := [-2]) (step_same hs rfl).1 (step_same hs rfl).2 (Same.refl H) Nt hT k⟩)
    refine by_f (not_f (decide_eq_true (Nat.lt_of_not_le h1))) ?_
    refine ⟨_, rfl, a, dx, _, rfl, ho, nF_none (by decide +kernel) (by decide +kernel) _ _, _, rfl, a, l, as, n, j, rfl, Nt, _, rfl, ?_⟩
    by_cases h2 : n.users.length ≤ j
    · rw [if_pos (.inr h2)] at hs
      exact by_t (not_t (decide_eq_false (Nat.not_lt.mpr h2))) ⟨one_le, same_end (zs := [-2]) (step_same hs rfl).1 (step_same hs rfl).2 (Same.refl H) Nt hT k⟩
    refine by_f (not_f (decide_eq_true (Nat.lt_of_not_le h2))) ?_
    rw [if_neg (fun z => z.elim h1 h2)] at hs
    obtain ⟨ai, hai, di, hui⟩ := U.get (show i < (usOf (some n)).length from Nat.lt_of_not_le h1)
    obtain ⟨aj, haj, dj, huj⟩ := U.get (show j < (usOf (some n)).length from Nat.lt_of_not_le h2)
    refine ⟨_, rfl, a, N, dx, _, _, rfl, ho, T.cl, T.nU, nF_u _ _, _, rfl, l, _, _, V.ref aj, rfl, rfl, SqL.of U.lst, at_of (j := j) rfl (by rw [List.getElem?_map, haj]; rfl), aj, dj, _, rfl, huj, uF_none (by decide +kernel) (by decide +kernel) (by decide +kernel) _, ?_⟩
    refine ⟨_, rfl, a, N, dx, _, _, rfl, ho, T.cl, T.nU, nF_u _ _, _, rfl, l, _, _, V.ref ai, rfl, rfl, SqL.of U.lst, at_of (j := i) rfl (by rw [List.getElem?_map, hai]; rfl), aj, ai, _, _, rfl, ⟨dj, huj⟩, ⟨di, hui⟩, .inr ⟨_, rfl, one_le, ?_⟩⟩
    have hz : ans (Kqk3.flag ((usr n.users j).supply ≤ (usr n.users i).returned)) = [if decide ((usr n.users j).supply ≤ (usr n.users i).returned) = true then (1 : Int) else 0] := by
      rw [one_if (p := (usr n.users j).supply ≤ (usr n.users i).returned) rfl]
      rfl
    exact same_end (step_same hs hz).1 (step_same hs hz).2 (Same.refl H) Nt hT k
theorem scPu : FnScope ["self", "grade", "numbers", "number"] ["self"] (defScope sPeakU) := ⟨rfl, rfl, rfl, by decide +kernel, rfl, by decide +kernel, by decide +kernel⟩
theorem ok_peakU {f fG fO : Addr} {fd fdG dO : FuncData} (F : Fun K "peak_users" "Network.peak_users" sPeakU f fd) (T : TN K mg N) (B : TB mg) (Tu : TU K mg C) (GG : FnOk P w K mg base CX0 4 fG fdG ["users", "grade_count"] (spGrade C)) (bG : Binds K fdG ["users", "grade_count"] []) (tG : TD K mg "peak_grade_of" fG)
    (GO : FnOk P w K mg base CX0 1 fO dO ["self", "grade"] (spOcc C)) (bO : Binds K dO ["self", "grade"] []) (mO : Meth K C "occupies" fO) :
    FnOk P w K mg base CX0 5 f fd ["self"] (spM N C Pt 0 fun _ => .peakUsers) := by
  refine F.ok scPu (fun vs H Q E h => ?_) (fun cdv A outer s H vs Q E hr h => ?_)
  · obtain ⟨a, l, as, n, xs, rfl, hx, _⟩ := h
    simp [hx]
  · obtain ⟨a, l, as, n, xs, rfl, hx, Nt, hv, hT, k⟩ := h
    obtain rfl : xs = [] := List.eq_nil_of_length_eq_zero hx
    refine ⟨_, pss_cons (ps_set (i := 1) scPu.nd rfl (Or.inr rfl) (pe_call GG hr (by rfl) tG.g tG.k bG .nil pass0 (pa_cons (pe_fld (pv 0) rfl) (pa_cons (pe_fld (pv 0) rfl) pa_nil))))
      (pss_cons (ps_setLc (i := 2) (own := [("number", 3)]) (g := gName 3) (tt := tB (tMeth C "occupies" (spOcc C) [] _ (tOp (rIxL K) (tFld K (tVar 0) "users") (tVar 3)) (tCons (tVar 1) tNil))) (te := tVar 3) rfl scPu.nd rfl rfl (sw_true rfl rfl rfl (by decide +kernel))
        (pi_range1 (by rfl) B.range (pa_cons (pe_callB call_len_r (by rfl) B.len PySem.boot_len (pa_cons (pe_fld (pv 0) rfl) pa_nil)) pa_nil)) (blkOk_by (N := ["self", "grade", "numbers", "number"]) (sc := defScope sPeakU) (own := [("number", 3)]) (by decide +kernel)) (fun _ _ _ _ _ => pg_name (i := 3) scPu.nd rfl (Or.inl rfl))
        (fun _ _ _ _ _ => pts_one (pt_val (pe_meth (pe_ix ix_list (pe_fld (pv 0) rfl) (pv 3) (fun _ _ => rfl)) Tu.cl mO GO (hr.mono (by decide)) bO .nil pass0 (pa_cons (pv 1) pa_nil)))) (fun _ _ _ _ _ => pv 3))
      (pss_one (ps_ret (pe_op op_cat (pe_lst (pa_cons (pe_callB call_lenV (by rfl) B.len PySem.boot_len (pa_cons (pv 2) pa_nil)) pa_nil)) (pv 2))))), ?_⟩
    obtain ⟨⟨dx, ho⟩, U, nd⟩ := id Nt
    have h8 : n.users.length ≤ 8 := hv.u8
    refine ⟨_, rfl, a, N, dx, _, _, rfl, ho, T.cl, T.nU, nF_u _ _, _, rfl, a, N, dx, _, _, rfl, ho, T.cl, T.nG, nF_g _ _, l, as, n.users, n.gradeCount, rfl, U, hv.u8, hv.g1, hv.g12, fun H1 g s1 hg h1 h2 => ?_⟩
    have hpk : Kqk3.peakGradeOf n = some (g + 1) := peakGrade_is hg h1 h2
    have ho1 := s1 _ _ ho
    have U1 : UsersAt C H1 l as n.users := U.same s1
    refine rd_len T (C := C) rfl ho1 U1 ⟨_, rfl, by omega, by omega, fun D hD => ?_⟩
    have sD : Same H1 (upd H1 D (.lst [])) := same_new hD
    have en : ((n.users.length : Int)).toNat = n.users.length := by omega
    refine lc_range (lo := 0) (n := ((n.users.length : Int)).toNat) (fun i H' => H' D = some (.lst (((List.range i).filter fun i => occ (usr n.users i) (g + 1)).map vI)) ∧ Same H1 H') ⟨upd_same, sD⟩ ?_ ?_
    · rintro i H' hi ⟨hA, sm⟩
      have e0 : (0 : Int) + (i : Int) = (i : Int) := by omega
      have hi' : i < n.users.length := by omega
      have U2 := U1.same sm
      have ho2 := sm _ _ ho1
      obtain ⟨ai, hai, di, hui⟩ := U2.get hi'
      refine ⟨rfl, ?_⟩
      refine ⟨_, rfl, a, N, dx, _, _, rfl, ho2, T.cl, T.nU, nF_u _ _, _, rfl, l, _, _, V.ref ai, rfl, rfl, SqL.of U2.lst, at_of (j := i) e0 (by rw [List.getElem?_map, hai]; rfl), ai, di, _, rfl, hui, uF_none (by decide +kernel) (by decide +kernel) (by decide +kernel) _, _, rfl, ai, _, g + 1, rfl, ⟨di, hui⟩, _, rfl, ?_⟩
      have hf : ((List.range (i + 1)).filter fun i => occ (usr n.users i) (g + 1)) = ((List.range i).filter fun i => occ (usr n.users i) (g + 1)) ++ if occ (usr n.users i) (g + 1) = true then [i] else [] := by
        rw [List.range_succ, List.filter_append, List.filter_cons]
        rfl
      have hl : ((List.range i).filter fun i => occ (usr n.users i) (g + 1)).length ≤ i := by
        have z := List.length_filter_le (fun i => occ (usr n.users i) (g + 1)) (List.range i)
        rw [List.length_range] at z
        exact z
      cases hoc : occ (usr n.users i) (g + 1) with
      | true =>
        rw [hoc, if_pos rfl] at hf
        refine iteT ⟨_, rfl, _, hA, small1000 (by rw [List.length_map]; omega), ?_, fun b o e => ?_⟩
        · rw [upd_same, hf, List.map_append]
          show some (HO.lst (_ ++ [V.int (0 + (i : Int))])) = _
          rw [e0]
          rfl
        · rw [upd_ne (ne_of_none e hD)]
          exact sm _ _ e
      | false =>
        rw [hoc, if_neg (by decide), List.append_nil] at hf
        exact iteF ⟨by rw [hf]; exact hA, sm⟩
    · rintro H' ⟨hA, sm⟩
      rw [en] at hA
      have hm : Kqk3.peakUsersOf n = (List.range n.users.length).filter fun i => occ (usr n.users i) (g + 1) := peakUsers_is hpk
      obtain ⟨ms, hms⟩ : ∃ ms, ms = Kqk3.peakUsersOf n := ⟨_, rfl⟩
      have hml : ms.length ≤ 8 := by
        rw [hms, hm]
        have z := List.length_filter_le (fun i => occ (usr n.users i) (g + 1)) (List.range n.users.length)
        rw [List.length_range] at z
        omega
      have hs : Kqk3.step (some n) .peakUsers = (some n, .values ms.length (Kqk3.ints ms)) := by
        rw [hms]
        rfl
      rw [← hm, ← hms] at hA
      refine ⟨_, rfl, D, _, rfl, .inl (SqL.of hA), one_le, fun q hq => ?_⟩
      have nDq : D ≠ q := ne_of_none hA hq
      refine ⟨_, rfl, q, D, _, _, rfl, rfl, upd_same, (by rw [upd_ne nDq]; exact hA), Nat.le_of_lt (small1000 (by rw [List.length_map]; show 1 + ms.length ≤ 1000; omega)), ?_⟩
      have e : [V.int ((ms.map vI).length : Nat)] ++ ms.map vI = ((ms.length : Int) :: Kqk3.ints ms).map V.int := by
        rw [List.length_map, List.map_cons]
        unfold Kqk3.ints
        rw [List.map_map]
        rfl
      intro p hp
      have z := same_end (q := .peakUsers) (zs := (ms.length : Int) :: Kqk3.ints ms) (step_same hs rfl).1 (step_same hs rfl).2 (s1.trans (sm.trans (same_new hq))) Nt hT k p hp
      rw [← e] at z
      exact z
theorem scLo : FnScope ["self", "user", "cascade_count", "others", "value"] ["self", "user", "cascade_count"] (defScope sLoss) := ⟨rfl, rfl, rfl, by decide +kernel, rfl, by decide +kernel, by decide +kernel⟩
theorem ok_loss {f fH fB : Addr} {fd dH fdB : FuncData} (F : Fun K "loss_without" "Network.loss_without" sLoss f fd) (T : TN K mg N) (T2 : TN2 mg) (GH : FnOk P w K mg base CX0 1 fH dH ["self", "user"] (spHasU N C)) (bH : Binds K dH ["self", "user"] []) (MH : Meth K N "has_user" fH)
    (GB : FnOk P w K mg base CX0 6 fB fdB ["users", "grade_count", "cascade_count"] (spBestV C)) (bB : Binds K fdB ["users", "grade_count", "cascade_count"] []) (tB : TD K mg "best_value_of" fB) :
    FnOk P w K mg base CX0 7 f fd ["self", "user", "cascade_count"] (spM N C Pt 2 fun xs => .lossWithout (xs.getD 0 0) (xs.getD 1 0)) := by
  refine F.ok scLo (fun vs H Q E h => ?_) (fun cdv A outer s H vs Q E hr h => ?_)
  · obtain ⟨a, l, as, n, xs, rfl, hx, _⟩ := h
    simp [hx]
  · obtain ⟨a, l, as, n, xs, rfl, hx, Nt, hv, hT, k⟩ := h
    obtain ⟨i, c, rfl⟩ : ∃ x y, xs = [x, y] := match xs, hx with
      | [x, y], _ => ⟨x, y, rfl⟩
    replace k : ∀ H' p l' as', NetAt N C H' a l' as' (Kqk3.step (some n) (.lossWithout i c)).1 → Tabs (TT Pt) H' → Kept H H' a l as → News H l as l' as' → Fresh H p → H' p = some (.lst ((ans (Kqk3.step (some n) (.lossWithout i c)).2).map V.int)) → Q (.ref p) H' := k
    have hs : Kqk3.step (some n) (.lossWithout i c) = (some n, if n.users.length ≤ i then .value (-2) else if 8 < c then .value (-22) else .value (Kqk3.valueOf n (Kqk3.bestSet n c) - Kqk3.valueOf (less n i) (Kqk3.bestSet (less n i) c) : Nat)) := rfl
    refine ⟨_, pss_cons (ps_if (pt_not (pt_val (pe_meth (pv 0) T.cl MH GH (hr.mono (by decide)) bH .nil pass0 (pa_cons (pv 1) pa_nil)))) (pss_one (ps_ret (pe_lst (pa_cons (pcon (-2) (by rfl) T.cNU) pa_nil)))) pss_nil)
      (pss_cons (ps_if (pt_cmpR op_gt (pv 2) (pcon 8 (by rfl) T2.cMC) (nomark _)) (pss_one (ps_ret (pe_lst (pa_cons (pcon (-22) (by rfl) T.cOR) pa_nil)))) pss_nil)
      (pss_cons (ps_set (i := 3) scLo.nd rfl (Or.inl rfl) (pe_op op_cat (pe_slice sl_list (pe_fld (pv 0) rfl) po_none (po_some (pv 1))) (pe_slice sl_list (pe_fld (pv 0) rfl) (po_some (pe_op op_add (pv 1) pe_int)) po_none)))
      (pss_cons (ps_set (i := 4) scLo.nd rfl (Or.inl rfl) (pe_call GB hr (by rfl) tB.g tB.k bB .nil pass0 (pa_cons (pe_fld (pv 0) rfl) (pa_cons (pe_fld (pv 0) rfl) (pa_cons (pv 2) pa_nil)))))
      (pss_one (ps_ret (pe_lst (pa_cons (pe_op op_sub (pv 4) (pe_call GB hr (by rfl) tB.g tB.k bB .nil pass0 (pa_cons (pv 3) (pa_cons (pe_fld (pv 0) rfl) (pa_cons (pv 2) pa_nil))))) pa_nil))))))), ?_⟩
    obtain ⟨⟨dx, ho⟩, U, nd⟩ := id Nt
    refine ⟨_, rfl, a, dx, _, rfl, ho, nF_none (by decide +kernel) (by decide +kernel) _ _, _, rfl, a, l, as, n, i, rfl, Nt, _, rfl, ?_⟩
    by_cases h1 : n.users.length ≤ i
    · rw [if_pos h1] at hs
      exact by_t (not_t (decide_eq_false (Nat.not_lt.mpr h1))) ⟨one_le, same_end (zs := [-2]) (step_same hs rfl).1 (step_same hs rfl).2 (Same.refl H) Nt hT k⟩
    refine by_f (not_f (decide_eq_true (Nat.lt_of_not_le h1))) ?_
    rw [if_neg h1] at hs
    have d1 : decide ((8 : Int) < (c : Int)) = decide (8 < c) := dec_lt 8 c
    refine ⟨_, rfl, _, _, rfl, rfl, _, rfl, ?_⟩
    by_cases h2 : 8 < c
    · rw [if_pos h2] at hs
      exact by_t (d1.trans (decide_eq_true h2)) ⟨one_le, same_end (zs := [-22]) (step_same hs rfl).1 (step_same hs rfl).2 (Same.refl H) Nt hT k⟩
    rw [if_neg h2] at hs
    refine by_f (d1.trans (decide_eq_false h2)) ?_
    have hi : i < n.users.length := Nat.lt_of_not_le h1
    have h8 := hv.u8
    have hal : as.length = n.users.length := U.len
    refine ⟨_, rfl, a, N, dx, _, _, rfl, ho, T.cl, T.nU, nF_u _ _, _, rfl, _, rfl, l, _, rfl, SqL.of U.lst, fun p1 hp1 => ?_⟩
    have s1 : Same H (upd H p1 (.lst (cutV (as.map V.ref) none (some (i : Int))))) := same_new hp1
    have e1 : upd H p1 (.lst (cutV (as.map V.ref) none (some (i : Int)))) p1 = some (.lst (cutV (as.map V.ref) none (some (i : Int)))) := upd_same
    generalize upd H p1 (.lst (cutV (as.map V.ref) none (some (i : Int)))) = H1 at s1 e1 ⊢
    refine ⟨_, rfl, a, N, dx, _, _, rfl, s1 _ _ ho, T.cl, T.nU, nF_u _ _, _, rfl, _, _, rfl, rfl, _, rfl, l, _, rfl, SqL.of (s1 _ _ U.lst), fun p2 hp2 => ?_⟩
    have s2 : Same H1 (upd H1 p2 (.lst (cutV (as.map V.ref) (some ((i : Int) + 1)) none))) := same_new hp2
    have e2 : upd H1 p2 (.lst (cutV (as.map V.ref) (some ((i : Int) + 1)) none)) p2 = some (.lst (cutV (as.map V.ref) (some ((i : Int) + 1)) none)) := upd_same
    generalize upd H1 p2 (.lst (cutV (as.map V.ref) (some ((i : Int) + 1)) none)) = H2 at s2 e2 ⊢
    have ec := cut_less (as := as) (i := i) (by omega)
    have hz : (cutV (as.map V.ref) none (some (i : Int))).length + (cutV (as.map V.ref) (some ((i : Int) + 1)) none).length ≤ sizeLine := by
      have z := congrArg List.length ec
      rw [List.length_append, List.length_map, List.length_eraseIdx] at z
      refine Nat.le_of_lt (small1000 ?_)
      split at z <;> omega
    refine ⟨p1, p2, _, _, rfl, rfl, s2 _ _ e1, e2, hz, fun p3 hp3 => ?_⟩
    rw [ec]
    have s3 : Same H2 (upd H2 p3 (.lst ((as.eraseIdx i).map V.ref))) := same_new hp3
    have e3 : upd H2 p3 (.lst ((as.eraseIdx i).map V.ref)) p3 = some (.lst ((as.eraseIdx i).map V.ref)) := upd_same
    generalize upd H2 p3 (.lst ((as.eraseIdx i).map V.ref)) = H3 at s3 e3 ⊢
    have s03 : Same H H3 := s1.trans (s2.trans s3)
    have ho3 := s03 _ _ ho
    have U3 : UsersAt C H3 l as n.users := U.same s03
    have UL : UsersAt C H3 p3 (as.eraseIdx i) (n.users.eraseIdx i) := UsersAt.less (us := n.users) U s03 e3 hi
    refine ⟨_, rfl, a, N, dx, _, _, rfl, ho3, T.cl, T.nU, nF_u _ _, _, rfl, a, N, dx, _, _, rfl, ho3, T.cl, T.nG, nF_g _ _, _, rfl, l, as, n.users, n.gradeCount, c, rfl, U3, hv.u8, hv.g1, hv.g12, fun H4 s4 => ?_⟩
    refine ⟨_, rfl, _, rfl, _, rfl, a, N, dx, _, _, rfl, s4 _ _ ho3, T.cl, T.nG, nF_g _ _, _, rfl, p3, as.eraseIdx i, n.users.eraseIdx i, n.gradeCount, c, rfl, UL.same s4, (hv.less i).u8, hv.g1, hv.g12, fun H5 s5 => ⟨_, _, rfl, rfl, one_le, ?_⟩⟩
    have hle := best_less n hi c
    have hz2 : ans (.value (Kqk3.valueOf n (Kqk3.bestSet n c) - Kqk3.valueOf (less n i) (Kqk3.bestSet (less n i) c) : Nat)) = [(Kqk3.valueOf n (Kqk3.bestSet n c) : Int) - (Kqk3.valueOf (less n i) (Kqk3.bestSet (less n i) c) : Int)] := by
      rw [← Int.natCast_sub hle]
      rfl
    exact same_end (step_same hs hz2).1 (step_same hs hz2).2 (s03.trans (s4.trans s5)) Nt hT k
theorem scSu : FnScope ["self"] ["self"] (defScope sSum) := ⟨rfl, rfl, rfl, by decide +kernel, rfl, by decide +kernel, by decide +kernel⟩
theorem ok_sum {f : Addr} {fd : FuncData} (F : Fun K "summary" "Network.summary" sSum f fd) (T : TN K mg N) (B : TB mg) : FnOk P w K mg base CX0 1 f fd ["self"] (spM N C Pt 0 fun _ => .summary) := by
  refine F.ok scSu (fun vs H Q E h => ?_) (fun cdv A outer s H vs Q E hr h => ?_)
  · obtain ⟨a, l, as, n, xs, rfl, hx, _⟩ := h
    simp [hx]
  · obtain ⟨a, l, as, n, xs, rfl, hx, Nt, hv, hT, k⟩ := h
    obtain rfl : xs = [] := List.eq_nil_of_length_eq_zero hx
    refine ⟨_, pss_one (ps_ret (pe_lst (pa_cons (pe_fld (pv 0) rfl) (pa_cons (pe_callB call_len_r (by rfl) B.len PySem.boot_len (pa_cons (pe_fld (pv 0) rfl) pa_nil)) pa_nil)))), ?_⟩
    obtain ⟨⟨dx, ho⟩, U, nd⟩ := id Nt
    refine ⟨_, rfl, a, N, dx, _, _, rfl, ho, T.cl, T.nG, nF_g _ _, rd_len T (C := C) rfl ho U ⟨(by show 2 ≤ sizeLine; decide), ?_⟩⟩
    exact same_end (q := .summary) (zs := [(n.gradeCount : Int), (n.users.length : Int)]) rfl rfl (Same.refl H) Nt hT k
end
end HD

set_option Elab.async false
set_option linter.all false
set_option maxRecDepth 100000
set_option maxHeartbeats 2000000
namespace HD
open PySem PySem.Spec PyProof.Rows L2 LamX SL HC
open Kqk3 (User Network Request)
abbrev sDualM : Stmt := sNet 21
abbrev sProves : Stmt := sNet 22
/-- what a method of the network promises, that takes a count of cascades and prices -/
def spMP (N C Pt : Addr) (mk : Nat → List Nat → Request) : Sp := fun vs H Q _ => ∃ (a l g : Addr) (as : List Addr) (n : Network) (c : Nat) (ps : List Nat), vs = [.ref a, vI c, .ref g] ∧ H g = some (.lst (ps.map vI)) ∧ NetAt N C H a l as (some n) ∧ Valid n ∧ Tabs (TT Pt) H ∧
  ∀ H' p l' as', NetAt N C H' a l' as' (Kqk3.step (some n) (mk c ps)).1 → Tabs (TT Pt) H' → Kept H H' a l as → News H l as l' as' → Fresh H p → H' p = some (.lst ((ans (Kqk3.step (some n) (mk c ps)).2).map V.int)) → Q (.ref p) H'
theorem priced_f {n : Network} {k : Nat} {ps : List Nat} (h : priced n k ps = false) : 8 < k ∨ Kqk3.arePrices n ps = false := by
  unfold priced at h
  by_cases z : k ≤ 8
  · rw [decide_eq_true z, Bool.true_and] at h
    exact .inr h
  · exact .inl (by omega)
theorem priced_t {n : Network} {k : Nat} {ps : List Nat} (h : priced n k ps = true) : ¬ (8 < k ∨ Kqk3.arePrices n ps = false) ∧ k ≤ 8 ∧ ps.length = n.gradeCount := by
  unfold priced at h
  rw [Bool.and_eq_true, decide_eq_true_iff] at h
  have z := h.2
  unfold Kqk3.arePrices at z
  rw [Bool.and_eq_true, beq_iff_eq] at z
  refine ⟨fun y => ?_, h.1, z.1⟩
  rcases y with y | y
  · omega
  · rw [h.2] at y
    cases y
theorem fits_ {n : Network} (v : Valid n) {ps : List Nat} (h : ps.length = n.gradeCount) : ∀ u ∈ n.users, u.returned ≤ u.supply ∧ u.supply ≤ ps.length := fun u hu => by
  have z := v.us u hu
  rw [h]
  exact ⟨Nat.le_of_lt z.1, z.2.1⟩
section
variable {P : Program} {w : World} {K : PySem.W.Frag} {mg : Str → Option Value} {base : Heap} {C N Pt : Addr}
theorem scDm : FnScope ["self", "cascade_count", "prices"] ["self", "cascade_count", "prices"] (defScope sDualM) := ⟨rfl, rfl, rfl, by decide +kernel, rfl, by decide +kernel, by decide +kernel⟩
theorem ok_dualM {f fP fD : Addr} {fd dP dD : FuncData} (F : Fun K "dual_bound" "Network.dual_bound" sDualM f fd) (T : TN K mg N) (GP : FnOk P w K mg base CX0 1 fP dP ["self", "cascade_count", "prices"] (spCanP N C)) (bP : Binds K dP ["self", "cascade_count", "prices"] []) (MP : Meth K N "can_price" fP)
    (GD : FnOk P w K mg base CX0 2 fD dD ["users", "cascade_count", "prices"] (spDual C)) (bD : Binds K dD ["users", "cascade_count", "prices"] []) (tD : TD K mg "dual_bound_of" fD) :
    FnOk P w K mg base CX0 3 f fd ["self", "cascade_count", "prices"] (spMP N C Pt .dualBound) := by
  refine F.ok scDm (fun vs H Q E h => ?_) (fun cdv A outer s H vs Q E hr h => ?_)
  · obtain ⟨a, l, g, as, n, c, ps, rfl, _⟩ := h
    rfl
  · obtain ⟨a, l, g, as, n, c, ps, rfl, hg, Nt, hv, hT, k⟩ := h
    have hs : Kqk3.step (some n) (.dualBound c ps) = (some n, if 8 < c ∨ Kqk3.arePrices n ps = false then .value (-22) else .value (Kqk3.dualBound n c ps)) := rfl
    refine ⟨_, pss_cons (ps_if (pt_not (pt_val (pe_meth (pv 0) T.cl MP GP (hr.mono (by decide)) bP .nil pass0 (pa_cons (pv 1) (pa_cons (pv 2) pa_nil))))) (pss_one (ps_ret (pe_lst (pa_cons (pcon (-22) (by rfl) T.cOR) pa_nil)))) pss_nil)
      (pss_one (ps_ret (pe_lst (pa_cons (pe_call GD hr (by rfl) tD.g tD.k bD .nil pass0 (pa_cons (pe_fld (pv 0) rfl) (pa_cons (pv 1) (pa_cons (pv 2) pa_nil)))) pa_nil)))), ?_⟩
    obtain ⟨⟨dx, ho⟩, U, nd⟩ := id Nt
    refine ⟨_, rfl, a, dx, _, rfl, ho, nF_none (by decide +kernel) (by decide +kernel) _ _, _, rfl, _, rfl, a, l, g, as, n, c, ps, rfl, Nt, hv, hg, _, rfl, ?_⟩
    cases hp : priced n c ps with
    | false =>
      rw [if_pos (priced_f hp)] at hs
      exact by_t (not_t rfl) ⟨one_le, same_end (zs := [-22]) (step_same hs rfl).1 (step_same hs rfl).2 (Same.refl H) Nt hT k⟩
    | true =>
      obtain ⟨h0, h8, hl⟩ := priced_t hp
      rw [if_neg h0, dual_is n c ps hl] at hs
      refine by_f (not_f rfl) ?_
      refine ⟨_, rfl, a, N, dx, _, _, rfl, ho, T.cl, T.nU, nF_u _ _, _, rfl, _, rfl, l, g, as, n.users, c, ps, rfl, U, hg, h8, fits_ hv hl, fun H1 s1 => ⟨one_le, ?_⟩⟩
      exact same_end (zs := [(dualOf n.users c ps : Int)]) (step_same hs rfl).1 (step_same hs rfl).2 s1 Nt hT k
theorem scPr : FnScope ["self", "cascade_count", "prices", "bound"] ["self", "cascade_count", "prices"] (defScope sProves) := ⟨rfl, rfl, rfl, by decide +kernel, rfl, by decide +kernel, by decide +kernel⟩
theorem ok_proves {f fP fD fB : Addr} {fd dP dD fdB : FuncData} (F : Fun K "proves_optimality" "Network.proves_optimality" sProves f fd) (T : TN K mg N) (B2 : TB2 mg) (GP : FnOk P w K mg base CX0 1 fP dP ["self", "cascade_count", "prices"] (spCanP N C)) (bP : Binds K dP ["self", "cascade_count", "prices"] []) (MP : Meth K N "can_price" fP)
    (GD : FnOk P w K mg base CX0 2 fD dD ["users", "cascade_count", "prices"] (spDual C)) (bD : Binds K dD ["users", "cascade_count", "prices"] []) (tD : TD K mg "dual_bound_of" fD)
    (GB : FnOk P w K mg base CX0 6 fB fdB ["users", "grade_count", "cascade_count"] (spBestV C)) (bB : Binds K fdB ["users", "grade_count", "cascade_count"] []) (tB : TD K mg "best_value_of" fB) :
    FnOk P w K mg base CX0 7 f fd ["self", "cascade_count", "prices"] (spMP N C Pt .provesOptimality) := by
  refine F.ok scPr (fun vs H Q E h => ?_) (fun cdv A outer s H vs Q E hr h => ?_)
  · obtain ⟨a, l, g, as, n, c, ps, rfl, _⟩ := h
    rfl
  · obtain ⟨a, l, g, as, n, c, ps, rfl, hg, Nt, hv, hT, k⟩ := h
    have hs : Kqk3.step (some n) (.provesOptimality c ps) = (some n, if 8 < c ∨ Kqk3.arePrices n ps = false then .value (-22) else Kqk3.flag (Kqk3.dualBound n c ps = Kqk3.valueOf n (Kqk3.bestSet n c))) := rfl
    refine ⟨_, pss_cons (ps_if (pt_not (pt_val (pe_meth (pv 0) T.cl MP GP (hr.mono (by decide)) bP .nil pass0 (pa_cons (pv 1) (pa_cons (pv 2) pa_nil))))) (pss_one (ps_ret (pe_lst (pa_cons (pcon (-22) (by rfl) T.cOR) pa_nil)))) pss_nil)
      (pss_cons (ps_set (i := 3) scPr.nd rfl (Or.inl rfl) (pe_call GD (hr.mono (by decide)) (by rfl) tD.g tD.k bD .nil pass0 (pa_cons (pe_fld (pv 0) rfl) (pa_cons (pv 1) (pa_cons (pv 2) pa_nil)))))
      (pss_one (ps_ret (pe_lst (pa_cons (pe_callTy call_int1 (by rfl) B2.int boot_int (pa_cons (pe_cmpR op_eq (pv 3) (pe_call GB hr (by rfl) tB.g tB.k bB .nil pass0 (pa_cons (pe_fld (pv 0) rfl) (pa_cons (pe_fld (pv 0) rfl) (pa_cons (pv 1) pa_nil)))) (nomark _)) pa_nil)) pa_nil))))), ?_⟩
    obtain ⟨⟨dx, ho⟩, U, nd⟩ := id Nt
    refine ⟨_, rfl, a, dx, _, rfl, ho, nF_none (by decide +kernel) (by decide +kernel) _ _, _, rfl, _, rfl, a, l, g, as, n, c, ps, rfl, Nt, hv, hg, _, rfl, ?_⟩
    cases hp : priced n c ps with
    | false =>
      rw [if_pos (priced_f hp)] at hs
      exact by_t (not_t rfl) ⟨one_le, same_end (zs := [-22]) (step_same hs rfl).1 (step_same hs rfl).2 (Same.refl H) Nt hT k⟩
    | true =>
      obtain ⟨h0, h8, hl⟩ := priced_t hp
      rw [if_neg h0, dual_is n c ps hl] at hs
      refine by_f (not_f rfl) ?_
      refine ⟨_, rfl, a, N, dx, _, _, rfl, ho, T.cl, T.nU, nF_u _ _, _, rfl, _, rfl, l, g, as, n.users, c, ps, rfl, U, hg, h8, fits_ hv hl, fun H1 s1 => ?_⟩
      have ho1 := s1 _ _ ho
      refine ⟨_, rfl, _, rfl, a, N, dx, _, _, rfl, ho1, T.cl, T.nU, nF_u _ _, _, rfl, a, N, dx, _, _, rfl, ho1, T.cl, T.nG, nF_g _ _, _, rfl, l, as, n.users, n.gradeCount, c, rfl, U.same s1, hv.u8, hv.g1, hv.g12, fun H2 s2 => ⟨rfl, .inr ⟨_, rfl, one_le, ?_⟩⟩⟩
      have hz : ans (Kqk3.flag (dualOf n.users c ps = Kqk3.valueOf n (Kqk3.bestSet n c))) = [if decide (vI (dualOf n.users c ps) = vI (Kqk3.valueOf n (Kqk3.bestSet n c))) = true then (1 : Int) else 0] := by
        rw [one_if (p := dualOf n.users c ps = Kqk3.valueOf n (Kqk3.bestSet n c)) (dec_eq _ _)]
        rfl
      exact same_end (step_same hs hz).1 (step_same hs hz).2 (s1.trans s2) Nt hT k
end
end HD

set_option Elab.async false
set_option linter.all false
set_option maxRecDepth 100000
set_option maxHeartbeats 2000000
namespace HD
open PySem PySem.Spec PyProof.Rows L2 LamX SL HC
open Kqk3 (User Network Request)
/-- a method of the network, and its promise -/
def Has (P : Program) (w : World) (K : PySem.W.Frag) (mg : Str → Option Value) (base : Heap) (N C Pt : Addr) (lv : Nat) (name : Str) (ps : List Str) (ar : Nat) (mk : List Nat → Request) : Prop :=
  ∃ f fd, FnOk P w K mg base CX0 lv f fd ps (spM N C Pt ar mk) ∧ Binds K fd ps [] ∧ Meth K N name f
/-- the same for one that takes prices -/
def HasP (P : Program) (w : World) (K : PySem.W.Frag) (mg : Str → Option Value) (base : Heap) (N C Pt : Addr) (lv : Nat) (name : Str) (mk : Nat → List Nat → Request) : Prop :=
  ∃ f fd, FnOk P w K mg base CX0 lv f fd ["self", "cascade_count", "prices"] (spMP N C Pt mk) ∧ Binds K fd ["self", "cascade_count", "prices"] [] ∧ Meth K N name f
/-- a call that is not create, its numbers in a list -/
def spGive (N C Pt : Addr) (lo hi : Nat) : Sp := fun vs H Q _ => ∃ (a l g : Addr) (as : List Addr) (n : Network) (q : Request), vs = [.ref a, vI (opOf q), .ref g] ∧ lo ≤ opOf q ∧ opOf q ≤ hi ∧ H g = some (.lst ((givenOf q).map vI)) ∧ NetAt N C H a l as (some n) ∧ Valid n ∧ Tabs (TT Pt) H ∧
  ∀ H' p l' as', NetAt N C H' a l' as' (Kqk3.step (some n) q).1 → Tabs (TT Pt) H' → Kept H H' a l as → News H l as l' as' → Fresh H p → H' p = some (.lst ((ans (Kqk3.step (some n) q).2).map V.int)) → Q (.ref p) H'
abbrev sAboutU : Stmt := top 46
abbrev sAboutL : Stmt := top 47
abbrev sAboutS : Stmt := top 48
abbrev sRest : Stmt := top 49
abbrev sAnswer : Stmt := top 50
abbrev sBehind : Stmt := top 51
abbrev sAnswers : Stmt := top 52
structure TC (mg : Str → Option Value) : Prop where
  c0 : ∃ t, mg "CREATE" = some (.int 0 t)
  c1 : ∃ t, mg "ADD_USER" = some (.int 1 t)
  c2 : ∃ t, mg "REMOVE_USER" = some (.int 2 t)
  c3 : ∃ t, mg "LIST_USERS" = some (.int 3 t)
  c4 : ∃ t, mg "SET_VALUE" = some (.int 4 t)
  c5 : ∃ t, mg "LOAD" = some (.int 5 t)
  c6 : ∃ t, mg "PEAK_LOAD" = some (.int 6 t)
  c7 : ∃ t, mg "PEAK_GRADE" = some (.int 7 t)
  c8 : ∃ t, mg "MIN_CASCADES" = some (.int 8 t)
  c9 : ∃ t, mg "ASSIGN_CASCADES" = some (.int 9 t)
  c10 : ∃ t, mg "IS_SERVABLE" = some (.int 10 t)
  c11 : ∃ t, mg "BEST_SET" = some (.int 11 t)
  c12 : ∃ t, mg "VALUE_OF" = some (.int 12 t)
  c13 : ∃ t, mg "MARGINAL_VALUE" = some (.int 13 t)
  c14 : ∃ t, mg "CAN_FOLLOW" = some (.int 14 t)
  c15 : ∃ t, mg "PEAK_USERS" = some (.int 15 t)
  c16 : ∃ t, mg "DUAL_BOUND" = some (.int 16 t)
  c17 : ∃ t, mg "PROVES_OPTIMALITY" = some (.int 17 t)
  c18 : ∃ t, mg "LOSS_WITHOUT" = some (.int 18 t)
section
variable {P : Program} {w : World} {K : PySem.W.Frag} {mg : Str → Option Value} {base : Heap} {C N Pt : Addr}
theorem scAU : FnScope ["network", "call", "given"] ["network", "call", "given"] (defScope sAboutU) := ⟨rfl, rfl, rfl, by decide +kernel, rfl, by decide +kernel, by decide +kernel⟩
theorem no_op {q : Request} {i : Int} (m : Nat) (hq : opOf q = m) (h : ¬ (m : Int) = i := by decide) : decide (vI (opOf q) = V.int i) = false := decide_eq_false fun z => h (by rw [← hq]; exact V.int.inj z)
theorem is_op {q : Request} {i : Int} (m : Nat) (hq : opOf q = m) (h : (m : Int) = i := by decide) : decide (vI (opOf q) = V.int i) = true := decide_eq_true (by rw [hq, ← h])
theorem ok_aboutU {f : Addr} {fd : FuncData} (F : Fun K "answer_about_users" "answer_about_users" sAboutU f fd) (T : TN K mg N) (Tc : TC mg) (m1 : Has P w K mg base N C Pt 7 "add_user" ["self", "supply_grade", "return_grade", "value"] 3 fun xs => .addUser (xs.getD 0 0) (xs.getD 1 0) (xs.getD 2 0))
    (m2 : Has P w K mg base N C Pt 7 "remove_user" ["self", "user"] 1 fun xs => .removeUser (xs.getD 0 0)) (m3 : Has P w K mg base N C Pt 7 "list_users" ["self"] 0 fun _ => .listUsers) (m4 : Has P w K mg base N C Pt 7 "set_value" ["self", "user", "value"] 2 fun xs => .setValue (xs.getD 0 0) (xs.getD 1 0)) :
    FnOk P w K mg base CX0 8 f fd ["network", "call", "given"] (spGive N C Pt 1 4) := by
  obtain ⟨f1, d1, G1, b1, M1⟩ := m1
  obtain ⟨f2, d2, G2, b2, M2⟩ := m2
  obtain ⟨f3, d3, G3, b3, M3⟩ := m3
  obtain ⟨f4, d4, G4, b4, M4⟩ := m4
  refine F.ok scAU (fun vs H Q E h => ?_) (fun cdv A outer s H vs Q E hr h => ?_)
  · obtain ⟨a, l, g, as, n, q, rfl, _⟩ := h
    rfl
  · obtain ⟨a, l, g, as, n, q, rfl, hlo, hhi, hg, Nt, hv, hT, k⟩ := h
    refine ⟨_, pss_cons (ps_if (pt_cmpR op_eq (pv 1) (pcon 1 (by rfl) Tc.c1) (nomark _)) (pss_one (ps_ret (pe_meth (pv 0) T.cl M1 G1 hr b1 .nil pass0 (pa_cons (pe_ix ix_list (pv 2) pe_int (fun _ _ => rfl)) (pa_cons (pe_ix ix_list (pv 2) pe_int (fun _ _ => rfl)) (pa_cons (pe_ix ix_list (pv 2) pe_int (fun _ _ => rfl)) pa_nil)))))) pss_nil)
      (pss_cons (ps_if (pt_cmpR op_eq (pv 1) (pcon 2 (by rfl) Tc.c2) (nomark _)) (pss_one (ps_ret (pe_meth (pv 0) T.cl M2 G2 hr b2 .nil pass0 (pa_cons (pe_ix ix_list (pv 2) pe_int (fun _ _ => rfl)) pa_nil)))) pss_nil)
      (pss_cons (ps_if (pt_cmpR op_eq (pv 1) (pcon 3 (by rfl) Tc.c3) (nomark _)) (pss_one (ps_ret (pe_meth0 (pv 0) T.cl M3 G3 hr b3 .nil pass0))) pss_nil)
      (pss_one (ps_ret (pe_meth (pv 0) T.cl M4 G4 hr b4 .nil pass0 (pa_cons (pe_ix ix_list (pv 2) pe_int (fun _ _ => rfl)) (pa_cons (pe_ix ix_list (pv 2) pe_int (fun _ _ => rfl)) pa_nil))))))), ?_⟩
    obtain ⟨⟨dx, ho⟩, U, nd⟩ := id Nt
    have no : ∀ {m : Str}, (m == ("grade_count" : Str)) = false → (m == ("users" : Str)) = false → (nF (gcOf (some n)) l).lookup m = none := fun h1 h2 => nF_none h1 h2 _ _
    cases q with
    | addUser sg rg x =>
      refine ⟨_, rfl, rfl, _, rfl, by_t (is_op 1 rfl) ?_⟩
      refine ⟨_, rfl, a, dx, _, rfl, ho, no (by decide +kernel) (by decide +kernel), ⟨_, rfl, g, _, _, _, rfl, rfl, SqL.of hg, rfl, ⟨_, rfl, g, _, _, _, rfl, rfl, SqL.of hg, rfl, ⟨_, rfl, g, _, _, _, rfl, rfl, SqL.of hg, rfl, ?_⟩⟩⟩⟩
      exact ⟨a, l, as, n, [sg, rg, x], rfl, rfl, Nt, hv, hT, k⟩
    | removeUser i =>
      refine ⟨_, rfl, rfl, _, rfl, by_f (no_op 2 rfl) ?_⟩
      refine ⟨_, rfl, rfl, _, rfl, by_t (is_op 2 rfl) ?_⟩
      refine ⟨_, rfl, a, dx, _, rfl, ho, no (by decide +kernel) (by decide +kernel), ⟨_, rfl, g, _, _, _, rfl, rfl, SqL.of hg, rfl, ?_⟩⟩
      exact ⟨a, l, as, n, [i], rfl, rfl, Nt, hv, hT, k⟩
    | listUsers =>
      refine ⟨_, rfl, rfl, _, rfl, by_f (no_op 3 rfl) ?_⟩
      refine ⟨_, rfl, rfl, _, rfl, by_f (no_op 3 rfl) ?_⟩
      refine ⟨_, rfl, rfl, _, rfl, by_t (is_op 3 rfl) ?_⟩
      refine ⟨_, rfl, a, dx, _, rfl, ho, no (by decide +kernel) (by decide +kernel), ?_⟩
      exact ⟨a, l, as, n, [], rfl, rfl, Nt, hv, hT, k⟩
    | setValue i x =>
      refine ⟨_, rfl, rfl, _, rfl, by_f (no_op 4 rfl) ?_⟩
      refine ⟨_, rfl, rfl, _, rfl, by_f (no_op 4 rfl) ?_⟩
      refine ⟨_, rfl, rfl, _, rfl, by_f (no_op 4 rfl) ?_⟩
      refine ⟨_, rfl, a, dx, _, rfl, ho, no (by decide +kernel) (by decide +kernel), ⟨_, rfl, g, _, _, _, rfl, rfl, SqL.of hg, rfl, ⟨_, rfl, g, _, _, _, rfl, rfl, SqL.of hg, rfl, ?_⟩⟩⟩
      exact ⟨a, l, as, n, [i, x], rfl, rfl, Nt, hv, hT, k⟩
    | _ => exact absurd (And.intro hlo hhi) (by simp only [opOf]; omega)
end
end HD

set_option Elab.async false
set_option linter.all false
set_option maxRecDepth 100000
set_option maxHeartbeats 2000000
namespace HD
open PySem PySem.Spec PyProof.Rows L2 LamX SL HC
open Kqk3 (User Network Request)
section
variable {P : Program} {w : World} {K : PySem.W.Frag} {mg : Str → Option Value} {base : Heap} {C N Pt : Addr}
theorem scAL : FnScope ["network", "call", "given"] ["network", "call", "given"] (defScope sAboutL) := ⟨rfl, rfl, rfl, by decide +kernel, rfl, by decide +kernel, by decide +kernel⟩
theorem ok_aboutL {f : Addr} {fd : FuncData} (F : Fun K "answer_about_load" "answer_about_load" sAboutL f fd) (T : TN K mg N) (Tc : TC mg) (m5 : Has P w K mg base N C Pt 7 "load" ["self", "grade"] 1 fun xs => .load (xs.getD 0 0))
    (m6 : Has P w K mg base N C Pt 7 "peak_load" ["self"] 0 fun _ => .peakLoad) (m7 : Has P w K mg base N C Pt 7 "peak_grade" ["self"] 0 fun _ => .peakGrade) (m8 : Has P w K mg base N C Pt 7 "min_cascades" ["self"] 0 fun _ => .minCascades)
    (m9 : Has P w K mg base N C Pt 7 "assign_cascades" ["self", "user_set"] 1 fun xs => .assignCascades (xs.getD 0 0)) : FnOk P w K mg base CX0 8 f fd ["network", "call", "given"] (spGive N C Pt 5 9) := by
  obtain ⟨f1, d1, G1, b1, M1⟩ := m5
  obtain ⟨f2, d2, G2, b2, M2⟩ := m6
  obtain ⟨f3, d3, G3, b3, M3⟩ := m7
  obtain ⟨f4, d4, G4, b4, M4⟩ := m8
  obtain ⟨f5, d5, G5, b5, M5⟩ := m9
  refine F.ok scAL (fun vs H Q E h => ?_) (fun cdv A outer s H vs Q E hr h => ?_)
  · obtain ⟨a, l, g, as, n, q, rfl, _⟩ := h
    rfl
  · obtain ⟨a, l, g, as, n, q, rfl, hlo, hhi, hg, Nt, hv, hT, k⟩ := h
    refine ⟨_, pss_cons (ps_if (pt_cmpR op_eq (pv 1) (pcon 5 (by rfl) Tc.c5) (nomark _)) (pss_one (ps_ret (pe_meth (pv 0) T.cl M1 G1 hr b1 .nil pass0 (pa_cons (pe_ix ix_list (pv 2) pe_int (fun _ _ => rfl)) pa_nil)))) pss_nil)
      (pss_cons (ps_if (pt_cmpR op_eq (pv 1) (pcon 6 (by rfl) Tc.c6) (nomark _)) (pss_one (ps_ret (pe_meth0 (pv 0) T.cl M2 G2 hr b2 .nil pass0))) pss_nil)
      (pss_cons (ps_if (pt_cmpR op_eq (pv 1) (pcon 7 (by rfl) Tc.c7) (nomark _)) (pss_one (ps_ret (pe_meth0 (pv 0) T.cl M3 G3 hr b3 .nil pass0))) pss_nil)
      (pss_cons (ps_if (pt_cmpR op_eq (pv 1) (pcon 8 (by rfl) Tc.c8) (nomark _)) (pss_one (ps_ret (pe_meth0 (pv 0) T.cl M4 G4 hr b4 .nil pass0))) pss_nil)
      (pss_one (ps_ret (pe_meth (pv 0) T.cl M5 G5 hr b5 .nil pass0 (pa_cons (pe_ix ix_list (pv 2) pe_int (fun _ _ => rfl)) pa_nil))))))), ?_⟩
    obtain ⟨⟨dx, ho⟩, U, nd⟩ := id Nt
    have no : ∀ {m : Str}, (m == ("grade_count" : Str)) = false → (m == ("users" : Str)) = false → (nF (gcOf (some n)) l).lookup m = none := fun h1 h2 => nF_none h1 h2 _ _
    cases q with
    | load i =>
      refine ⟨_, rfl, rfl, _, rfl, by_t (is_op 5 rfl) ?_⟩
      refine ⟨_, rfl, a, dx, _, rfl, ho, no (by decide +kernel) (by decide +kernel), ⟨_, rfl, g, _, _, _, rfl, rfl, SqL.of hg, rfl, ?_⟩⟩
      exact ⟨a, l, as, n, [i], rfl, rfl, Nt, hv, hT, k⟩
    | peakLoad =>
      refine ⟨_, rfl, rfl, _, rfl, by_f (no_op 6 rfl) ?_⟩
      refine ⟨_, rfl, rfl, _, rfl, by_t (is_op 6 rfl) ?_⟩
      refine ⟨_, rfl, a, dx, _, rfl, ho, no (by decide +kernel) (by decide +kernel), ?_⟩
      exact ⟨a, l, as, n, [], rfl, rfl, Nt, hv, hT, k⟩
    | peakGrade =>
      refine ⟨_, rfl, rfl, _, rfl, by_f (no_op 7 rfl) ?_⟩
      refine ⟨_, rfl, rfl, _, rfl, by_f (no_op 7 rfl) ?_⟩
      refine ⟨_, rfl, rfl, _, rfl, by_t (is_op 7 rfl) ?_⟩
      refine ⟨_, rfl, a, dx, _, rfl, ho, no (by decide +kernel) (by decide +kernel), ?_⟩
      exact ⟨a, l, as, n, [], rfl, rfl, Nt, hv, hT, k⟩
    | minCascades =>
      refine ⟨_, rfl, rfl, _, rfl, by_f (no_op 8 rfl) ?_⟩
      refine ⟨_, rfl, rfl, _, rfl, by_f (no_op 8 rfl) ?_⟩
      refine ⟨_, rfl, rfl, _, rfl, by_f (no_op 8 rfl) ?_⟩
      refine ⟨_, rfl, rfl, _, rfl, by_t (is_op 8 rfl) ?_⟩
      refine ⟨_, rfl, a, dx, _, rfl, ho, no (by decide +kernel) (by decide +kernel), ?_⟩
      exact ⟨a, l, as, n, [], rfl, rfl, Nt, hv, hT, k⟩
    | assignCascades set =>
      refine ⟨_, rfl, rfl, _, rfl, by_f (no_op 9 rfl) ?_⟩
      refine ⟨_, rfl, rfl, _, rfl, by_f (no_op 9 rfl) ?_⟩
      refine ⟨_, rfl, rfl, _, rfl, by_f (no_op 9 rfl) ?_⟩
      refine ⟨_, rfl, rfl, _, rfl, by_f (no_op 9 rfl) ?_⟩
      refine ⟨_, rfl, a, dx, _, rfl, ho, no (by decide +kernel) (by decide +kernel), ⟨_, rfl, g, _, _, _, rfl, rfl, SqL.of hg, rfl, ?_⟩⟩
      exact ⟨a, l, as, n, [set], rfl, rfl, Nt, hv, hT, k⟩
    | _ => exact absurd (And.intro hlo hhi) (by simp only [opOf]; omega)
end
end HD

set_option Elab.async false
set_option linter.all false
set_option maxRecDepth 100000
set_option maxHeartbeats 2000000
namespace HD
open PySem PySem.Spec PyProof.Rows L2 LamX SL HC
open Kqk3 (User Network Request)
section
variable {P : Program} {w : World} {K : PySem.W.Frag} {mg : Str → Option Value} {base : Heap} {C N Pt : Addr}
/-- a promise from a heap that has one list more -/
theorem from_more {H H1 : Hp} {Q : VK} {a l : Addr} {as : List Addr} {n : Network} {q : Request} (e : Same H H1)
    (k : ∀ H' p l' as', NetAt N C H' a l' as' (Kqk3.step (some n) q).1 → Tabs (TT Pt) H' → Kept H H' a l as → News H l as l' as' → Fresh H p → H' p = some (.lst ((ans (Kqk3.step (some n) q).2).map V.int)) → Q (.ref p) H') :
    ∀ H' p l' as', NetAt N C H' a l' as' (Kqk3.step (some n) q).1 → Tabs (TT Pt) H' → Kept H1 H' a l as → News H1 l as l' as' → Fresh H1 p → H' p = some (.lst ((ans (Kqk3.step (some n) q).2).map V.int)) → Q (.ref p) H' :=
  fun H' p l' as' N' T' kp nw fr hp => k H' p l' as' N' T' (fun b o h => kp b o (e _ _ h)) (fun b hb => (nw b hb).imp_right fun z => e.free z) (fun o h => fr o (e _ _ h)) hp
theorem scAS : FnScope ["network", "call", "given"] ["network", "call", "given"] (defScope sAboutS) := ⟨rfl, rfl, rfl, by decide +kernel, rfl, by decide +kernel, by decide +kernel⟩
theorem ok_aboutS {f : Addr} {fd : FuncData} (F : Fun K "answer_about_sets" "answer_about_sets" sAboutS f fd) (T : TN K mg N) (Tc : TC mg) (m1 : Has P w K mg base N C Pt 7 "is_servable" ["self", "user_set", "cascade_count"] 2 fun xs => .isServable (xs.getD 0 0) (xs.getD 1 0))
    (m2 : Has P w K mg base N C Pt 7 "best_set" ["self", "cascade_count"] 1 fun xs => .bestSet (xs.getD 0 0)) (m3 : Has P w K mg base N C Pt 7 "value_of" ["self", "user_set"] 1 fun xs => .valueOf (xs.getD 0 0)) (m4 : Has P w K mg base N C Pt 7 "marginal_value" ["self", "cascade_count"] 1 fun xs => .marginalValue (xs.getD 0 0)) :
    FnOk P w K mg base CX0 8 f fd ["network", "call", "given"] (spGive N C Pt 10 13) := by
  obtain ⟨f1, d1, G1, b1, M1⟩ := m1
  obtain ⟨f2, d2, G2, b2, M2⟩ := m2
  obtain ⟨f3, d3, G3, b3, M3⟩ := m3
  obtain ⟨f4, d4, G4, b4, M4⟩ := m4
  refine F.ok scAS (fun vs H Q E h => ?_) (fun cdv A outer s H vs Q E hr h => ?_)
  · obtain ⟨a, l, g, as, n, q, rfl, _⟩ := h
    rfl
  · obtain ⟨a, l, g, as, n, q, rfl, hlo, hhi, hg, Nt, hv, hT, k⟩ := h
    refine ⟨_, pss_cons (ps_if (pt_cmpR op_eq (pv 1) (pcon 10 (by rfl) Tc.c10) (nomark _)) (pss_one (ps_ret (pe_meth (pv 0) T.cl M1 G1 hr b1 .nil pass0 (pa_cons (pe_ix ix_list (pv 2) pe_int (fun _ _ => rfl)) (pa_cons (pe_ix ix_list (pv 2) pe_int (fun _ _ => rfl)) pa_nil))))) pss_nil)
      (pss_cons (ps_if (pt_cmpR op_eq (pv 1) (pcon 11 (by rfl) Tc.c11) (nomark _)) (pss_one (ps_ret (pe_meth (pv 0) T.cl M2 G2 hr b2 .nil pass0 (pa_cons (pe_ix ix_list (pv 2) pe_int (fun _ _ => rfl)) pa_nil)))) pss_nil)
      (pss_cons (ps_if (pt_cmpR op_eq (pv 1) (pcon 12 (by rfl) Tc.c12) (nomark _)) (pss_one (ps_ret (pe_meth (pv 0) T.cl M3 G3 hr b3 .nil pass0 (pa_cons (pe_ix ix_list (pv 2) pe_int (fun _ _ => rfl)) pa_nil)))) pss_nil)
      (pss_one (ps_ret (pe_meth (pv 0) T.cl M4 G4 hr b4 .nil pass0 (pa_cons (pe_ix ix_list (pv 2) pe_int (fun _ _ => rfl)) pa_nil)))))), ?_⟩
    obtain ⟨⟨dx, ho⟩, U, nd⟩ := id Nt
    have no : ∀ {m : Str}, (m == ("grade_count" : Str)) = false → (m == ("users" : Str)) = false → (nF (gcOf (some n)) l).lookup m = none := fun h1 h2 => nF_none h1 h2 _ _
    cases q with
    | isServable set c =>
      refine ⟨_, rfl, rfl, _, rfl, by_t (is_op 10 rfl) ?_⟩
      refine ⟨_, rfl, a, dx, _, rfl, ho, no (by decide +kernel) (by decide +kernel), ⟨_, rfl, g, _, _, _, rfl, rfl, SqL.of hg, rfl, ⟨_, rfl, g, _, _, _, rfl, rfl, SqL.of hg, rfl, ?_⟩⟩⟩
      exact ⟨a, l, as, n, [set, c], rfl, rfl, Nt, hv, hT, k⟩
    | bestSet c =>
      refine ⟨_, rfl, rfl, _, rfl, by_f (no_op 11 rfl) ?_⟩
      refine ⟨_, rfl, rfl, _, rfl, by_t (is_op 11 rfl) ?_⟩
      refine ⟨_, rfl, a, dx, _, rfl, ho, no (by decide +kernel) (by decide +kernel), ⟨_, rfl, g, _, _, _, rfl, rfl, SqL.of hg, rfl, ?_⟩⟩
      exact ⟨a, l, as, n, [c], rfl, rfl, Nt, hv, hT, k⟩
    | valueOf set =>
      refine ⟨_, rfl, rfl, _, rfl, by_f (no_op 12 rfl) ?_⟩
      refine ⟨_, rfl, rfl, _, rfl, by_f (no_op 12 rfl) ?_⟩
      refine ⟨_, rfl, rfl, _, rfl, by_t (is_op 12 rfl) ?_⟩
      refine ⟨_, rfl, a, dx, _, rfl, ho, no (by decide +kernel) (by decide +kernel), ⟨_, rfl, g, _, _, _, rfl, rfl, SqL.of hg, rfl, ?_⟩⟩
      exact ⟨a, l, as, n, [set], rfl, rfl, Nt, hv, hT, k⟩
    | marginalValue c =>
      refine ⟨_, rfl, rfl, _, rfl, by_f (no_op 13 rfl) ?_⟩
      refine ⟨_, rfl, rfl, _, rfl, by_f (no_op 13 rfl) ?_⟩
      refine ⟨_, rfl, rfl, _, rfl, by_f (no_op 13 rfl) ?_⟩
      refine ⟨_, rfl, a, dx, _, rfl, ho, no (by decide +kernel) (by decide +kernel), ⟨_, rfl, g, _, _, _, rfl, rfl, SqL.of hg, rfl, ?_⟩⟩
      exact ⟨a, l, as, n, [c], rfl, rfl, Nt, hv, hT, k⟩
    | _ => exact absurd (And.intro hlo hhi) (by simp only [opOf]; omega)
theorem cut_prices (c : Nat) (ps : List Nat) : cutV ((c :: ps.length :: ps).map vI) (some 2) none = ps.map vI := cut_rest (xs := (c :: ps.length :: ps).map vI) (k := 2) (by simp)
theorem scRe : FnScope ["network", "call", "given"] ["network", "call", "given"] (defScope sRest) := ⟨rfl, rfl, rfl, by decide +kernel, rfl, by decide +kernel, by decide +kernel⟩
theorem ok_rest {f : Addr} {fd : FuncData} (F : Fun K "answer_the_rest" "answer_the_rest" sRest f fd) (T : TN K mg N) (Tc : TC mg) (m1 : Has P w K mg base N C Pt 7 "can_follow" ["self", "user", "following"] 2 fun xs => .canFollow (xs.getD 0 0) (xs.getD 1 0))
    (m2 : Has P w K mg base N C Pt 7 "peak_users" ["self"] 0 fun _ => .peakUsers) (m3 : HasP P w K mg base N C Pt 7 "dual_bound" .dualBound) (m4 : HasP P w K mg base N C Pt 7 "proves_optimality" .provesOptimality)
    (m5 : Has P w K mg base N C Pt 7 "loss_without" ["self", "user", "cascade_count"] 2 fun xs => .lossWithout (xs.getD 0 0) (xs.getD 1 0)) (m6 : Has P w K mg base N C Pt 7 "summary" ["self"] 0 fun _ => .summary) :
    FnOk P w K mg base CX0 8 f fd ["network", "call", "given"] (spGive N C Pt 14 19) := by
  obtain ⟨f1, d1, G1, b1, M1⟩ := m1
  obtain ⟨f2, d2, G2, b2, M2⟩ := m2
  obtain ⟨f3, d3, G3, b3, M3⟩ := m3
  obtain ⟨f4, d4, G4, b4, M4⟩ := m4
  obtain ⟨f5, d5, G5, b5, M5⟩ := m5
  obtain ⟨f6, d6, G6, b6, M6⟩ := m6
  refine F.ok scRe (fun vs H Q E h => ?_) (fun cdv A outer s H vs Q E hr h => ?_)
  · obtain ⟨a, l, g, as, n, q, rfl, _⟩ := h
    rfl
  · obtain ⟨a, l, g, as, n, q, rfl, hlo, hhi, hg, Nt, hv, hT, k⟩ := h
    refine ⟨_, pss_cons (ps_if (pt_cmpR op_eq (pv 1) (pcon 14 (by rfl) Tc.c14) (nomark _)) (pss_one (ps_ret (pe_meth (pv 0) T.cl M1 G1 hr b1 .nil pass0 (pa_cons (pe_ix ix_list (pv 2) pe_int (fun _ _ => rfl)) (pa_cons (pe_ix ix_list (pv 2) pe_int (fun _ _ => rfl)) pa_nil))))) pss_nil)
      (pss_cons (ps_if (pt_cmpR op_eq (pv 1) (pcon 15 (by rfl) Tc.c15) (nomark _)) (pss_one (ps_ret (pe_meth0 (pv 0) T.cl M2 G2 hr b2 .nil pass0))) pss_nil)
      (pss_cons (ps_if (pt_cmpR op_eq (pv 1) (pcon 16 (by rfl) Tc.c16) (nomark _)) (pss_one (ps_ret (pe_meth (pv 0) T.cl M3 G3 hr b3 .nil pass0 (pa_cons (pe_ix ix_list (pv 2) pe_int (fun _ _ => rfl)) (pa_cons (pe_slice sl_list (pv 2) (po_some pe_int) po_none) pa_nil))))) pss_nil)
      (pss_cons (ps_if (pt_cmpR op_eq (pv 1) (pcon 17 (by rfl) Tc.c17) (nomark _)) (pss_one (ps_ret (pe_meth (pv 0) T.cl M4 G4 hr b4 .nil pass0 (pa_cons (pe_ix ix_list (pv 2) pe_int (fun _ _ => rfl)) (pa_cons (pe_slice sl_list (pv 2) (po_some pe_int) po_none) pa_nil))))) pss_nil)
      (pss_cons (ps_if (pt_cmpR op_eq (pv 1) (pcon 18 (by rfl) Tc.c18) (nomark _)) (pss_one (ps_ret (pe_meth (pv 0) T.cl M5 G5 hr b5 .nil pass0 (pa_cons (pe_ix ix_list (pv 2) pe_int (fun _ _ => rfl)) (pa_cons (pe_ix ix_list (pv 2) pe_int (fun _ _ => rfl)) pa_nil))))) pss_nil)
      (pss_one (ps_ret (pe_meth0 (pv 0) T.cl M6 G6 hr b6 .nil pass0))))))), ?_⟩
    obtain ⟨⟨dx, ho⟩, U, nd⟩ := id Nt
    have no : ∀ {m : Str}, (m == ("grade_count" : Str)) = false → (m == ("users" : Str)) = false → (nF (gcOf (some n)) l).lookup m = none := fun h1 h2 => nF_none h1 h2 _ _
    cases q with
    | canFollow i j =>
      refine ⟨_, rfl, rfl, _, rfl, by_t (is_op 14 rfl) ?_⟩
      refine ⟨_, rfl, a, dx, _, rfl, ho, no (by decide +kernel) (by decide +kernel), ⟨_, rfl, g, _, _, _, rfl, rfl, SqL.of hg, rfl, ⟨_, rfl, g, _, _, _, rfl, rfl, SqL.of hg, rfl, ?_⟩⟩⟩
      exact ⟨a, l, as, n, [i, j], rfl, rfl, Nt, hv, hT, k⟩
    | peakUsers =>
      refine ⟨_, rfl, rfl, _, rfl, by_f (no_op 15 rfl) ?_⟩
      refine ⟨_, rfl, rfl, _, rfl, by_t (is_op 15 rfl) ?_⟩
      refine ⟨_, rfl, a, dx, _, rfl, ho, no (by decide +kernel) (by decide +kernel), ?_⟩
      exact ⟨a, l, as, n, [], rfl, rfl, Nt, hv, hT, k⟩
    | dualBound c ps =>
      have hg' : H g = some (.lst ((c :: ps.length :: ps).map vI)) := hg
      refine ⟨_, rfl, rfl, _, rfl, by_f (no_op 16 rfl) ?_⟩
      refine ⟨_, rfl, rfl, _, rfl, by_f (no_op 16 rfl) ?_⟩
      refine ⟨_, rfl, rfl, _, rfl, by_t (is_op 16 rfl) ?_⟩
      refine ⟨_, rfl, a, dx, _, rfl, ho, no (by decide +kernel) (by decide +kernel), ⟨_, rfl, g, _, _, _, rfl, rfl, SqL.of hg', at_of (j := 0) rfl rfl, ⟨_, rfl, _, rfl, g, _, rfl, SqL.of hg', fun t ht => ?_⟩⟩⟩
      rw [cut_prices]
      have s1 : Same H (upd H t (.lst (ps.map vI))) := same_new ht
      exact ⟨a, l, t, as, n, c, ps, rfl, upd_same, Nt.extN (ExtN.of s1), hv, hT.ext s1, from_more s1 k⟩
    | provesOptimality c ps =>
      have hg' : H g = some (.lst ((c :: ps.length :: ps).map vI)) := hg
      refine ⟨_, rfl, rfl, _, rfl, by_f (no_op 17 rfl) ?_⟩
      refine ⟨_, rfl, rfl, _, rfl, by_f (no_op 17 rfl) ?_⟩
      refine ⟨_, rfl, rfl, _, rfl, by_f (no_op 17 rfl) ?_⟩
      refine ⟨_, rfl, rfl, _, rfl, by_t (is_op 17 rfl) ?_⟩
      refine ⟨_, rfl, a, dx, _, rfl, ho, no (by decide +kernel) (by decide +kernel), ⟨_, rfl, g, _, _, _, rfl, rfl, SqL.of hg', at_of (j := 0) rfl rfl, ⟨_, rfl, _, rfl, g, _, rfl, SqL.of hg', fun t ht => ?_⟩⟩⟩
      rw [cut_prices]
      have s1 : Same H (upd H t (.lst (ps.map vI))) := same_new ht
      exact ⟨a, l, t, as, n, c, ps, rfl, upd_same, Nt.extN (ExtN.of s1), hv, hT.ext s1, from_more s1 k⟩
    | lossWithout i c =>
      refine ⟨_, rfl, rfl, _, rfl, by_f (no_op 18 rfl) ?_⟩
      refine ⟨_, rfl, rfl, _, rfl, by_f (no_op 18 rfl) ?_⟩
      refine ⟨_, rfl, rfl, _, rfl, by_f (no_op 18 rfl) ?_⟩
      refine ⟨_, rfl, rfl, _, rfl, by_f (no_op 18 rfl) ?_⟩
      refine ⟨_, rfl, rfl, _, rfl, by_t (is_op 18 rfl) ?_⟩
      refine ⟨_, rfl, a, dx, _, rfl, ho, no (by decide +kernel) (by decide +kernel), ⟨_, rfl, g, _, _, _, rfl, rfl, SqL.of hg, rfl, ⟨_, rfl, g, _, _, _, rfl, rfl, SqL.of hg, rfl, ?_⟩⟩⟩
      exact ⟨a, l, as, n, [i, c], rfl, rfl, Nt, hv, hT, k⟩
    | summary =>
      refine ⟨_, rfl, rfl, _, rfl, by_f (no_op 19 rfl) ?_⟩
      refine ⟨_, rfl, rfl, _, rfl, by_f (no_op 19 rfl) ?_⟩
      refine ⟨_, rfl, rfl, _, rfl, by_f (no_op 19 rfl) ?_⟩
      refine ⟨_, rfl, rfl, _, rfl, by_f (no_op 19 rfl) ?_⟩
      refine ⟨_, rfl, rfl, _, rfl, by_f (no_op 19 rfl) ?_⟩
      refine ⟨_, rfl, a, dx, _, rfl, ho, no (by decide +kernel) (by decide +kernel), ?_⟩
      exact ⟨a, l, as, n, [], rfl, rfl, Nt, hv, hT, k⟩
    | _ => exact absurd (And.intro hlo hhi) (by simp only [opOf]; omega)
end
end HD

set_option Elab.async false
set_option linter.all false
set_option maxRecDepth 100000
set_option maxHeartbeats 2000000
namespace HD
open PySem PySem.Spec PyProof.Rows L2 LamX SL HC
open Kqk3 (User Network Request)
/-- any call, at a network or at none -/
def spAny (N C Pt : Addr) : Sp := fun vs H Q _ => ∃ (a l g : Addr) (as : List Addr) (s : S) (q : Request), vs = [.ref a, vI (opOf q), .ref g] ∧ H g = some (.lst ((givenOf q).map vI)) ∧ NetAt N C H a l as s ∧ ValidS s ∧ Tabs (TT Pt) H ∧
  ∀ H' p l' as', NetAt N C H' a l' as' (Kqk3.step s q).1 → Tabs (TT Pt) H' → Kept H H' a l as → News H l as l' as' → Fresh H p → H' p = some (.lst ((ans (Kqk3.step s q).2).map V.int)) → Q (.ref p) H'
section
variable {P : Program} {w : World} {K : PySem.W.Frag} {mg : Str → Option Value} {base : Heap} {C N Pt : Addr}
theorem step_none {q : Request} (h : ¬ opOf q = 0) : Kqk3.step none q = (none, .value (-11)) := by
  cases q <;> first | rfl | exact absurd rfl h
theorem scAn : FnScope ["network", "call", "given"] ["network", "call", "given"] (defScope sAnswer) := ⟨rfl, rfl, rfl, by decide +kernel, rfl, by decide +kernel, by decide +kernel⟩
theorem ok_answer {f fU fL fS fR fC fE : Addr} {fd dU dL dS dR dC dE : FuncData} (F : Fun K "answer" "answer" sAnswer f fd) (T : TN K mg N) (Tc : TC mg)
    (GC : FnOk P w K mg base CX0 1 fC dC ["self", "grade_count"] (spCreate N C Pt)) (bC : Binds K dC ["self", "grade_count"] []) (MC : Meth K N "create" fC)
    (GE : FnOk P w K mg base CX0 1 fE dE ["self"] (spExists N C)) (bE : Binds K dE ["self"] []) (ME : Meth K N "exists" fE)
    (GU : FnOk P w K mg base CX0 8 fU dU ["network", "call", "given"] (spGive N C Pt 1 4)) (bU : Binds K dU ["network", "call", "given"] []) (tU : TD K mg "answer_about_users" fU)
    (GL : FnOk P w K mg base CX0 8 fL dL ["network", "call", "given"] (spGive N C Pt 5 9)) (bL : Binds K dL ["network", "call", "given"] []) (tL : TD K mg "answer_about_load" fL)
    (GS : FnOk P w K mg base CX0 8 fS dS ["network", "call", "given"] (spGive N C Pt 10 13)) (bS : Binds K dS ["network", "call", "given"] []) (tS : TD K mg "answer_about_sets" fS)
    (GR : FnOk P w K mg base CX0 8 fR dR ["network", "call", "given"] (spGive N C Pt 14 19)) (bR : Binds K dR ["network", "call", "given"] []) (tR : TD K mg "answer_the_rest" fR) :
    FnOk P w K mg base CX0 9 f fd ["network", "call", "given"] (spAny N C Pt) := by
  refine F.ok scAn (fun vs H Q E h => ?_) (fun cdv A outer s H vs Q E hr h => ?_)
  · obtain ⟨a, l, g, as, n, q, rfl, _⟩ := h
    rfl
  · obtain ⟨a, l, g, as, s, q, rfl, hg, Nt, hv, hT, k⟩ := h
    refine ⟨_, pss_cons (ps_if (pt_cmpR op_eq (pv 1) (pcon 0 (by rfl) Tc.c0) (nomark _)) (pss_one (ps_ret (pe_meth (pv 0) T.cl MC GC (hr.mono (by decide)) bC .nil pass0 (pa_cons (pe_ix ix_list (pv 2) pe_int (fun _ _ => rfl)) pa_nil)))) pss_nil)
      (pss_cons (ps_if (pt_not (pt_val (pe_meth0 (pv 0) T.cl ME GE (hr.mono (by decide)) bE .nil pass0))) (pss_one (ps_ret (pe_lst (pa_cons (pcon (-11) (by rfl) T.cNN) pa_nil)))) pss_nil)
      (pss_cons (ps_if (pt_cmpR op_le (pv 1) (pcon 4 (by rfl) Tc.c4) (nomark _)) (pss_one (ps_ret (pe_call GU hr (by rfl) tU.g tU.k bU .nil pass0 (pa_cons (pv 0) (pa_cons (pv 1) (pa_cons (pv 2) pa_nil)))))) pss_nil)
      (pss_cons (ps_if (pt_cmpR op_le (pv 1) (pcon 9 (by rfl) Tc.c9) (nomark _)) (pss_one (ps_ret (pe_call GL hr (by rfl) tL.g tL.k bL .nil pass0 (pa_cons (pv 0) (pa_cons (pv 1) (pa_cons (pv 2) pa_nil)))))) pss_nil)
      (pss_cons (ps_if (pt_cmpR op_le (pv 1) (pcon 13 (by rfl) Tc.c13) (nomark _)) (pss_one (ps_ret (pe_call GS hr (by rfl) tS.g tS.k bS .nil pass0 (pa_cons (pv 0) (pa_cons (pv 1) (pa_cons (pv 2) pa_nil)))))) pss_nil)
      (pss_one (ps_ret (pe_call GR hr (by rfl) tR.g tR.k bR .nil pass0 (pa_cons (pv 0) (pa_cons (pv 1) (pa_cons (pv 2) pa_nil)))))))))), ?_⟩
    obtain ⟨⟨dx, ho⟩, U, nd⟩ := id Nt
    have no : ∀ {m : Str}, (m == ("grade_count" : Str)) = false → (m == ("users" : Str)) = false → (nF (gcOf s) l).lookup m = none := fun h1 h2 => nF_none h1 h2 _ _
    by_cases h0 : opOf q = 0
    · obtain ⟨gc, rfl⟩ : ∃ gc, q = .create gc := by
        cases q <;> first | exact ⟨_, rfl⟩ | exact absurd h0 (by simp only [opOf]; decide)
      refine ⟨_, rfl, rfl, _, rfl, by_t (is_op 0 rfl) ?_⟩
      refine ⟨_, rfl, a, dx, _, rfl, ho, no (by decide +kernel) (by decide +kernel), ⟨_, rfl, g, _, _, _, rfl, rfl, SqL.of hg, rfl, ?_⟩⟩
      exact ⟨a, l, as, s, gc, rfl, Nt, hT, k⟩
    · refine ⟨_, rfl, rfl, _, rfl, by_f (no_op _ rfl (by omega)) ?_⟩
      refine ⟨_, rfl, a, dx, _, rfl, ho, no (by decide +kernel) (by decide +kernel), a, l, as, s, rfl, Nt, hv, ?_⟩
      cases s with
      | none =>
        have hs := step_none h0
        rw [hs] at k
        refine ⟨_, rfl, by_t rfl ?_⟩
        exact ⟨one_le, said (Same.refl H) Nt hT k⟩
      | some n =>
        refine ⟨_, rfl, by_f rfl ?_⟩
        have d4 : decide ((opOf q : Int) ≤ 4) = decide (opOf q ≤ 4) := dec_le (opOf q) 4
        by_cases h4 : opOf q ≤ 4
        · refine ⟨_, rfl, _, _, rfl, rfl, _, rfl, by_t (d4.trans (decide_eq_true h4)) ?_⟩
          exact ⟨_, rfl, _, rfl, _, rfl, a, l, g, as, n, q, rfl, Nat.pos_of_ne_zero h0, h4, hg, Nt, hv n rfl, hT, k⟩
        · refine ⟨_, rfl, _, _, rfl, rfl, _, rfl, by_f (d4.trans (decide_eq_false h4)) ?_⟩
          have d9 : decide ((opOf q : Int) ≤ 9) = decide (opOf q ≤ 9) := dec_le (opOf q) 9
          by_cases h9 : opOf q ≤ 9
          · refine ⟨_, rfl, _, _, rfl, rfl, _, rfl, by_t (d9.trans (decide_eq_true h9)) ?_⟩
            exact ⟨_, rfl, _, rfl, _, rfl, a, l, g, as, n, q, rfl, Nat.lt_of_not_le h4, h9, hg, Nt, hv n rfl, hT, k⟩
          · refine ⟨_, rfl, _, _, rfl, rfl, _, rfl, by_f (d9.trans (decide_eq_false h9)) ?_⟩
            have d13 : decide ((opOf q : Int) ≤ 13) = decide (opOf q ≤ 13) := dec_le (opOf q) 13
            by_cases h13 : opOf q ≤ 13
            · refine ⟨_, rfl, _, _, rfl, rfl, _, rfl, by_t (d13.trans (decide_eq_true h13)) ?_⟩
              exact ⟨_, rfl, _, rfl, _, rfl, a, l, g, as, n, q, rfl, Nat.lt_of_not_le h9, h13, hg, Nt, hv n rfl, hT, k⟩
            · refine ⟨_, rfl, _, _, rfl, rfl, _, rfl, by_f (d13.trans (decide_eq_false h13)) ?_⟩
              exact ⟨_, rfl, _, rfl, _, rfl, a, l, g, as, n, q, rfl, Nat.lt_of_not_le h13, op_le q, hg, Nt, hv n rfl, hT, k⟩
end
end HD

set_option Elab.async false
set_option linter.all false
set_option maxRecDepth 100000
set_option maxHeartbeats 2000000
namespace HD
open PySem PySem.Spec PyProof.Rows L2 LamX SL HC
open Kqk3 (User Network Request)
def counts : List Nat := [1, 3, 1, 0, 2, 1, 0, 0, 0, 1, 2, 1, 1, 1, 2, 0, 2, 2, 2, 0]
/-- how many numbers a call has -/
structure TA9 (K : PySem.W.Frag) (mg : Str → Option Value) : Prop where
  cA : ∃ c, mg "ARGUMENT_COUNTS" = some (.ref c) ∧ ∀ H, SqT K H c (counts.map vI)
theorem cutV_is {xs : List Int} {k m : Nat} (hk : k ≤ m) (hm : m ≤ xs.length) : cutV (xs.map V.int) (some (k : Int)) (some (m : Int)) = (cut xs k m).map V.int := by
  unfold cutV cut
  rw [HT.sIx_nat, HT.sIx_nat, List.length_map, Nat.min_eq_left hm, Nat.min_eq_left (Nat.le_trans hk hm), List.map_take, List.map_drop]
theorem nums_vI (l : List Nat) : (nums l).map V.int = l.map vI := by
  unfold nums
  rw [List.map_map]
  rfl
def spAnswers (K : PySem.W.Frag) (Pt : Addr) : Sp := fun vs H Q _ => ∃ (c : Addr) (qs : List Request), vs = [.ref c] ∧ SqL K H c ((flat qs).map V.int) ∧ Tabs (TT Pt) H ∧ (toldQ none qs).length ≤ 10000000 ∧
  ∀ H' p, H' p = some (.lst ((toldQ none qs).map V.int)) → Q (.ref p) H'
theorem seq_at {K : PySem.W.Frag} {H : Hp} {c : Addr} {xs : List V} (h : SqL K H c xs) {b : Addr} (f : Fresh H b) : (∃ o, K.lookup c = some o) ∨ b ≠ c := by
  rcases h with (h | ⟨o, h⟩) | ⟨o, _, _, h, _⟩
  · refine .inr fun z => ?_
    obtain ⟨ps, e⟩ := f _ (by rw [z]; exact h)
    cases e
  · refine .inr fun z => ?_
    obtain ⟨ps, e⟩ := f _ (by rw [z]; exact h)
    cases e
  · exact .inl ⟨o, h⟩
section
variable {P : Program} {w : World} {K : PySem.W.Frag} {mg : Str → Option Value} {base : Heap} {C N Pt : Addr}
theorem NetAt.off {H H' : Hp} {a l t : Addr} {as : List Addr} {s : S} (Nt : NetAt N C H a l as s) (e : ∀ b o, H b = some o → b ≠ t → H' b = some o) (h : t ≠ a ∧ t ≠ l ∧ t ∉ as) : NetAt N C H' a l as s := by
  refine ⟨?_, ⟨e _ _ Nt.us.lst h.2.1.symm, Nt.us.len, fun j b hj => ?_⟩, Nt.nd⟩
  · obtain ⟨dx, o⟩ := Nt.obj
    exact ⟨dx, e _ _ o h.1.symm⟩
  · obtain ⟨u, h1, dx, h2⟩ := Nt.us.at_ j b hj
    exact ⟨u, h1, dx, e _ _ h2 fun z => h.2.2 (by rw [← z]; exact List.mem_of_getElem? hj)⟩
/-- a call's own numbers, and the count of its prices -/
def ownOf (q : Request) : Nat := countOf (opOf q) + if (pricesOf q).isSome then 1 else 0
theorem counts_at (q : Request) : (counts.map vI)[opOf q]? = some (vI (ownOf q)) := by
  cases q <;> rfl
def spBehind (K : PySem.W.Frag) : Sp := fun vs H Q _ => ∃ (c : Addr) (done rest : List Request) (q : Request), vs = [.ref c, vI (flat done).length] ∧ SqL K H c ((flat (done ++ q :: rest)).map V.int) ∧ Q (vI (flat (done ++ [q])).length) H
theorem scBh : FnScope ["calls", "place", "call", "behind"] ["calls", "place"] (defScope sBehind) := ⟨rfl, rfl, rfl, by decide +kernel, rfl, by decide +kernel, by decide +kernel⟩
theorem ok_behind {f : Addr} {fd : FuncData} (F : Fun K "place_behind" "place_behind" sBehind f fd) (Ta : TA9 K mg) (Tc : TC mg) : FnOk P w K mg base CX0 1 f fd ["calls", "place"] (spBehind K) := by
  refine F.ok scBh (fun vs H Q E h => ?_) (fun cdv A outer s H vs Q E hr h => ?_)
  · obtain ⟨c, done, rest, q, rfl, _⟩ := h
    rfl
  · obtain ⟨c, done, rest, q, rfl, hc, k⟩ := h
    obtain ⟨cA, hcA, hsA⟩ := Ta.cA
    refine ⟨_, pss_cons (ps_set (i := 2) scBh.nd rfl (Or.inl rfl) (pe_ix ix_list (pv 0) (pv 1) (fun _ _ => rfl)))
      (pss_cons (ps_set (i := 3) scBh.nd rfl (Or.inl rfl) (pe_op op_add (pe_op op_add (pv 1) pe_int) (pe_ix ix_tup (pe_glob (v := .ref cA) (by rfl) hcA rfl) (pv 2) (fun _ _ => rfl))))
      (pss_cons (ps_if (PW.pt (pw_or (pt_cmpR op_eq (pv 2) (pcon 16 (by rfl) Tc.c16) (nomark _)) (pw_or1 (pt_cmpR op_eq (pv 2) (pcon 17 (by rfl) Tc.c17) (nomark _)))))
        (pss_one (ps_ret (pe_op op_add (pv 3) (pe_ix ix_list (pv 0) (pe_op op_sub (pv 3) pe_int) (fun _ _ => rfl))))) pss_nil)
      (pss_one (ps_ret (pv 3))))), ?_⟩
    have hat : ((flat (done ++ q :: rest)).map V.int)[(flat done).length]? = some (vI (opOf q)) := by
      rw [List.getElem?_map, op_at]
      rfl
    refine ⟨_, rfl, _, rfl, c, _, _, _, rfl, rfl, hc, at_of (j := (flat done).length) rfl hat, ?_⟩
    refine ⟨_, rfl, _, _, rfl, rfl, _, rfl, cA, _, _, _, rfl, rfl, hsA _, at_of (j := opOf q) rfl (counts_at q), _, _, rfl, rfl, ?_⟩
    have hpi := prices_iff q
    have ho : ownOf q = countOf (opOf q) + if (pricesOf q).isSome then 1 else 0 := rfl
    cases hp : pricesOf q with
    | none =>
      rw [hp] at hpi ho
      have hno : ¬ (opOf q = 16 ∨ opOf q = 17) := fun z => by
        rw [decide_eq_true z] at hpi
        cases hpi
      have e : ((flat done).length : Int) + 1 + (ownOf q : Int) = (((flat (done ++ [q])).length : Nat) : Int) := by
        rw [next_none done q hp, ho]
        show _ + 1 + ((countOf (opOf q) + 0 : Nat) : Int) = _
        omega
      refine ⟨_, rfl, rfl, _, rfl, by_f (no_op _ rfl (by omega)) ⟨_, rfl, rfl, _, rfl, by_f (no_op _ rfl (by omega)) ⟨_, rfl, ?_⟩⟩⟩
      have k' : Q (V.int (((flat (done ++ [q])).length : Nat) : Int)) H := k
      rw [← e] at k'
      exact k'
    | some p =>
      rw [hp] at hpi ho
      have hyes : opOf q = 16 ∨ opOf q = 17 := by
        by_cases z : opOf q = 16 ∨ opOf q = 17
        · exact z
        · rw [decide_eq_false z] at hpi
          cases hpi
      have ho' : ownOf q = countOf (opOf q) + 1 := ho
      have e : ((flat done).length : Int) + 1 + (ownOf q : Int) + (p.length : Int) = (((flat (done ++ [q])).length : Nat) : Int) := by
        rw [next_some done q hp, ho']
        omega
      have em : ((flat done).length : Int) + 1 + (ownOf q : Int) - 1 = (((flat done).length + 1 + countOf (opOf q) : Nat) : Int) := by
        rw [ho']
        omega
      have hmany : ((flat (done ++ q :: rest)).map V.int)[(flat done).length + 1 + countOf (opOf q)]? = some (V.int (p.length : Int)) := by
        rw [List.getElem?_map, many_at done rest q hp]
        rfl
      have k' : Q (V.int (((flat (done ++ [q])).length : Nat) : Int)) H := k
      rw [← e] at k'
      by_cases h16 : opOf q = 16
      · refine ⟨_, rfl, rfl, _, rfl, by_t (is_op 16 h16) (by_t rfl ?_)⟩
        exact ⟨_, rfl, _, rfl, _, rfl, _, _, rfl, rfl, c, _, _, _, rfl, rfl, hc, at_of (j := (flat done).length + 1 + countOf (opOf q)) em hmany, _, _, rfl, rfl, k'⟩
      · refine ⟨_, rfl, rfl, _, rfl, by_f (no_op _ rfl (by omega)) ⟨_, rfl, rfl, _, rfl, by_t (is_op 17 (hyes.resolve_left h16)) ?_⟩⟩
        exact ⟨_, rfl, _, rfl, _, rfl, _, _, rfl, rfl, c, _, _, _, rfl, rfl, hc, at_of (j := (flat done).length + 1 + countOf (opOf q)) em hmany, _, _, rfl, rfl, k'⟩
theorem scAs2 : FnScope ["calls", "network", "told", "place", "behind", "answered"] ["calls"] (defScope sAnswers) := ⟨rfl, rfl, rfl, by decide +kernel, rfl, by decide +kernel, by decide +kernel⟩
/-- what holds at the head of the loop -/
structure Turn (N C Pt : Addr) (H0 H : Hp) (na l t : Addr) (as : List Addr) (done : List Request) : Prop where
  ext : ExtN H0 H
  net : NetAt N C H na l as (after none done)
  tabs : Tabs (TT Pt) H
  told : H t = some (.lst ((toldQ none done).map V.int))
  apart : t ≠ na ∧ t ≠ l ∧ t ∉ as
  new : Fresh H0 t ∧ Fresh H0 na ∧ Fresh H0 l ∧ ∀ b ∈ as, Fresh H0 b
theorem ok_answers {f fA fI fB : Addr} {fd dA dI dB : FuncData} (F : Fun K "answers" "answers" sAnswers f fd) (T : TN K mg N) (B : TB mg) (GB : FnOk P w K mg base CX0 1 fB dB ["calls", "place"] (spBehind K)) (bB : Binds K dB ["calls", "place"] []) (tB : TD K mg "place_behind" fB) (M : Mk K N fI) (GI : FnOk P w K mg base CX0 1 fI dI ["self"] (spNInit N C)) (bI : Binds K dI ["self"] [])
    (GA : FnOk P w K mg base CX0 9 fA dA ["network", "call", "given"] (spAny N C Pt)) (bA : Binds K dA ["network", "call", "given"] []) (tA : TD K mg "answer" fA) :
    FnOk P w K mg base CX0 10 f fd ["calls"] (spAnswers K Pt) := by
  refine F.ok scAs2 (fun vs H Q E h => ?_) (fun cdv A outer s H vs Q E hr h => ?_)
  · obtain ⟨c, qs, rfl, _⟩ := h
    rfl
  · obtain ⟨c, qs, rfl, hc, hT, hlen, k⟩ := h
    refine ⟨_, pss_cons (ps_set (i := 1) scAs2.nd rfl (Or.inl rfl) (pe_make0 M GI (hr.mono (by decide)) (by rfl) T.gN bI .nil pass0))
      (pss_cons (ps_set (i := 2) scAs2.nd rfl (Or.inl rfl) (pe_lst pa_nil))
      (pss_cons (ps_set (i := 3) scAs2.nd rfl (Or.inl rfl) pe_int)
      (pss_cons (ps_while PassesOwn.never (pt_cmpR op_lt (pv 3) (pe_callB call_len_r (by rfl) B.len PySem.boot_len (pa_cons (pv 0) pa_nil)) (nomark _))
        (pss_cons (ps_set (i := 4) scAs2.nd rfl (Or.inl rfl) (pe_call GB (hr.mono (by decide)) (by rfl) tB.g tB.k bB .nil pass0 (pa_cons (pv 0) (pa_cons (pv 3) pa_nil))))
        (pss_cons (ps_set (i := 5) scAs2.nd rfl (Or.inl rfl) (pe_call GA hr (by rfl) tA.g tA.k bA .nil pass0 (pa_cons (pv 1) (pa_cons (pe_ix ix_list (pv 0) (pv 3) (fun _ _ => rfl)) (pa_cons (pe_slice sl_list (pv 0) (po_some (pe_op op_add (pv 3) pe_int)) (po_some (pv 4))) pa_nil)))))
        (pss_cons (ps_expr (pe_bm PySem.F.plainAttrs_list PySem.F.slot_list_append PySem.F.type_list_append mt_append (pv 2) (pa_cons (pe_callB call_len_r (by rfl) B.len PySem.boot_len (pa_cons (pv 5) pa_nil)) pa_nil)))
        (pss_cons (ps_expr (pe_bm PySem.F.plainAttrs_list PySem.F.slot_list_extend PySem.F.type_list_extend mt_extend (pv 2) (pa_cons (pv 5) pa_nil)))
        (pss_one (ps_set (i := 3) scAs2.nd rfl (Or.inl rfl) (pv 4))))))))
      (pss_one (ps_ret (pv 2)))))), ?_⟩
    refine fun na dx h1 h2 h3 => ⟨na, dx, rfl, upd_same, fun H1 l0 N1 hl0 kp => ⟨rfl, ?_⟩⟩
    have s1 : Same H H1 := Same.made h1 h2 kp
    have hl1 : H l0 = none := by
      cases e : H l0 with
      | none => rfl
      | some o =>
        rw [upd_ne (ne_of_none e h1), upd_ne (ne_of_none e h2), e] at hl0
        cases hl0
    refine ⟨Nat.zero_le _, fun t ht => ?_⟩
    have s2 : Same H1 (upd H1 t (.lst [])) := fun b o e => by
      rw [upd_ne (ne_of_none e ht)]
      exact e
    refine ⟨fun m σ' H' => ∃ done rest na l t as v4 v5, qs = done ++ rest ∧ σ' = [some (.ref c), some (.ref na), some (.ref t), some (vI (flat done).length), v4, v5] ∧ m = rest.length ∧ Turn N C Pt H H' na l t as done,
      ⟨_, [], qs, na, l0, t, [], _, _, rfl, rfl, rfl, ⟨ExtN.of (s1.trans s2), N1.extN (ExtN.of s2), hT.ext (s1.trans s2), upd_same, ⟨?_, ?_, List.not_mem_nil⟩, ⟨Fresh.of (s1.free ht), Fresh.of h1, Fresh.of hl1, fun b hb => absurd hb List.not_mem_nil⟩⟩⟩, ?_⟩
    · obtain ⟨d, z⟩ := N1.obj
      exact (ne_of_none z ht).symm
    · exact (ne_of_none N1.us.lst ht).symm
    rintro m σ' H' ⟨done, rest, na, l, t, as, v4, v5, rfl, rfl, rfl, Z⟩
    clear h1 h2 h3 kp N1 hl0 s1 hl1 ht s2
    have hc' : SqL K H' c ((flat (done ++ rest)).map V.int) := ext_seq Z.ext hc
    refine ⟨_, rfl, _, rfl, c, _, rfl, .inl hc', _, _, rfl, rfl, _, rfl, ?_⟩
    have hl : ((flat (done ++ rest)).map V.int).length = (flat (done ++ rest)).length := List.length_map ..
    have dl : decide (((flat done).length : Int) < ((((flat (done ++ rest)).map V.int).length : Nat) : Int)) = decide ((flat done).length < (flat (done ++ rest)).length) := by
      rw [hl]
      exact dec_lt _ _
    cases rest with
    | nil =>
      refine by_f (dl.trans (decide_eq_false (by rw [List.append_nil]; exact Nat.lt_irrefl _))) ?_
      refine ⟨_, rfl, k _ t ?_⟩
      rw [List.append_nil]
      exact Z.told
    | cons q rest =>
      have hw := within done rest q
      have hne : (flat (done ++ [q])).length = (flat done).length + (enc q).length := by rw [flat_app, flat_one, List.length_append]
      have hpos := pos_len q
      refine by_t (dl.trans (decide_eq_true (by omega))) ?_
      refine ⟨_, fun σ'' H'' z => ⟨rest.length, Nat.lt_succ_self _, z⟩, ?_⟩
      have hat : ((flat (done ++ q :: rest)).map V.int)[(flat done).length]? = some (vI (opOf q)) := by
        rw [List.getElem?_map, op_at]
        rfl
      refine ⟨_, rfl, _, rfl, c, done, rest, q, rfl, hc', ?_⟩
      refine ⟨_, rfl, _, rfl, _, rfl, c, _, _, _, rfl, rfl, hc', at_of (j := (flat done).length) rfl hat, _, rfl, _, rfl, _, _, rfl, rfl, _, rfl, _, rfl, _, rfl, c, _, rfl, hc', fun g hg => ?_⟩
      have eC : cutV ((flat (done ++ q :: rest)).map V.int) (some (((flat done).length : Int) + 1)) (some (((flat (done ++ [q])).length : Nat) : Int)) = (givenOf q).map vI := by
        have z := cutV_is (xs := flat (done ++ q :: rest)) (k := (flat done).length + 1) (m := (flat (done ++ [q])).length) (by omega) hw
        rw [given_at, nums_vI] at z
        exact z
      rw [eC]
      have s3 : Same H' (upd H' g (.lst ((givenOf q).map vI))) := fun b o e => by
        rw [upd_ne (ne_of_none e hg)]
        exact e
      refine ⟨na, l, g, as, after none done, q, rfl, upd_same, Z.net.extN (ExtN.of s3), after_valid (fun n e => by cases e) done, Z.tabs.ext s3, fun H2 p l' as' N2 T2 kept news fresh hp => ?_⟩
      obtain ⟨an, han⟩ : ∃ an, an = ans (Kqk3.step (after none done) q).2 := ⟨_, rfl⟩
      rw [← han] at hp
      have ht1 : upd H' g (.lst ((givenOf q).map vI)) t = some (.lst ((toldQ none done).map V.int)) := s3 _ _ Z.told
      have ht2 : H2 t = some (.lst ((toldQ none done).map V.int)) := kept t _ ht1 Z.apart.1 Z.apart.2.1 Z.apart.2.2 fun ps z => nomatch z
      have hnew : ∀ b, (b = l' ∨ b ∈ as') → b ≠ t ∧ Fresh H b := fun b hb => by
        rcases news b hb with (z | z) | z
        · exact ⟨fun y => Z.apart.2.1 (by rw [← y, z]), by rw [z]; exact Z.new.2.2.1⟩
        · exact ⟨fun y => Z.apart.2.2 (by rw [← y]; exact z), Z.new.2.2.2 b z⟩
        · refine ⟨fun y => ?_, Fresh.ext Z.ext (s3.free z)⟩
          rw [y, ht1] at z
          cases z
      have ap : t ≠ na ∧ t ≠ l' ∧ t ∉ as' := ⟨Z.apart.1, (hnew l' (Or.inl rfl)).1.symm, fun z => (hnew t (Or.inr z)).1 rfl⟩
      have npt : p ≠ t := fun z => by
        obtain ⟨ps, e⟩ := fresh _ (by rw [z]; exact ht1)
        cases e
      have hsn := toldQ_snoc none done q
      have hshort : (toldQ none (done ++ [q])).length ≤ 10000000 := toldQ_short (bs := rest) (by rw [List.append_assoc]; exact hlen)
      rw [show Kqk3Neutral.fields (Kqk3.step (after none done) q).2 = an from han.symm] at hsn
      have hsl : (toldQ none done).length + (an.length + 1) ≤ 10000000 := by
        rw [hsn, List.length_append, List.length_cons] at hshort
        exact hshort
      have hz : 10000000 < sizeLine := by decide
      refine ⟨_, rfl, .inl ⟨rfl, _, SqL.of ht2⟩, _, rfl, p, _, rfl, .inl (SqL.of hp), t, _, _, rfl, rfl, ht2, (by rw [List.length_map]; omega), ?_⟩
      refine ⟨_, rfl, .inl ⟨rfl, _, SqL.of upd_same⟩, _, rfl, t, p, _, _, rfl, rfl, upd_same, (by rw [upd_ne npt]; exact hp), (by rw [List.length_append, List.length_map, List.length_map]; show _ + 1 + _ ≤ _; omega), ?_⟩
      obtain ⟨H4, hH4⟩ : ∃ H4, H4 = upd (upd H2 t (.lst ((toldQ none done).map V.int ++ [V.int ((an.map V.int).length : Nat)]))) t (.lst ((toldQ none done).map V.int ++ [V.int ((an.map V.int).length : Nat)] ++ an.map V.int)) := ⟨_, rfl⟩
      rw [← hH4]
      have off : ∀ b o, H2 b = some o → b ≠ t → H4 b = some o := fun b o h n => by
        rw [hH4, upd_ne n, upd_ne n]
        exact h
      refine ⟨_, rfl, done ++ [q], rest, na, l', t, as', some (vI (flat (done ++ [q])).length), some (.ref p), by rw [List.append_assoc]; rfl, rfl, rfl, ?_⟩
      · refine ⟨fun b o h nt => ?_, ?_, tabs_of (fun b o h n1 n2 => off b o h fun z => ?_) T2, ?_, ap, Z.new.1, Z.new.2.1, (hnew l' (Or.inl rfl)).2, fun b hb => (hnew b (Or.inr hb)).2⟩
        · have fr : ∀ {b'}, Fresh H b' → b ≠ b' := fun f z => by
            obtain ⟨ps, e⟩ := f o (by rw [← z]; exact h)
            exact nt ps e
          exact off b o (kept b o (s3 _ _ (Z.ext b o h nt)) (fr Z.new.2.1) (fr Z.new.2.2.1) (fun z => fr (Z.new.2.2.2 b z) rfl) nt) (fr Z.new.1)
        · rw [after_snoc]
          exact N2.off off ap
        · rw [z, ht2] at h
          exact n2 _ (Option.some.inj h).symm
        · rw [hH4, upd_same, hsn, List.length_map, List.map_append, List.map_cons, List.append_assoc]
          rfl
end
end HD

set_option Elab.async false
set_option linter.all false
set_option maxRecDepth 100000
set_option maxHeartbeats 2000000
namespace HD
open PySem PySem.Spec PyProof.Rows L2 LamX SL HC
open Kqk3 (User Network Request)
/-- a def's object, as the top left it -/
def DefAt (K : PySem.W.Frag) (x qual : Str) (st : Stmt) (f : Addr) : Prop := ∃ (oc : Value) (od : Option Addr) (kV doc pm : Value) (an : Option Addr) (cdv ct : Value) (osl : Array (Option Value)),
  K.lookup f = some ⟨oc, od, .func (PySem.W.fnOf x qual (defArgs st) (defBody st) (defScope st) .none kV doc pm an cdv ct), osl⟩ ∧ PySem.W.codeIn K cdv qual = true ∧ PySem.W.keepIn K (.ref f) = true
def TopAt (K : PySem.W.Frag) (x : Str) (st : Stmt) : Prop := ∃ f, PySem.W.nsIn K mainGlobals x = some (some (.ref f)) ∧ DefAt K x x st f
def MethAt (K : PySem.W.Frag) (C : Addr) (x qual : Str) (st : Stmt) : Prop := ∃ f, PySem.W.findIn K (.ref C) x = some (some (.ref f)) ∧ PySem.W.isFn K (.ref f) = true ∧ DefAt K x qual st f
def ConAt (K : PySem.W.Frag) (x : Str) (i : Int) : Prop := ∃ t, PySem.W.nsIn K mainGlobals x = some (some (.int i t))
/-- a def whose code object is at c, as the top left it -/
def CodedAt (K : PySem.W.Frag) (x : Str) (st : Stmt) (c : Addr) : Prop := ∃ f, PySem.W.nsIn K mainGlobals x = some (some (.ref f)) ∧ ∃ (oc : Value) (od : Option Addr) (kV doc pm : Value) (an : Option Addr) (ct : Value) (osl : Array (Option Value)),
  K.lookup f = some ⟨oc, od, .func (PySem.W.fnOf x x (defArgs st) (defBody st) (defScope st) .none kV doc pm an (.ref c) ct), osl⟩ ∧ PySem.W.codeIn K (.ref c) x = true ∧ PySem.W.keepIn K (.ref f) = true
/-- a class, as the top left it -/
structure ClsIn (K : PySem.W.Frag) (C : Addr) : Prop where
  cls : Cls K C
  made : PySem.W.makesIn K C = true
  kc : PySem.W.keepIn K (.ref C) = true
theorem clsAt {K : PySem.W.Frag} {C : Addr} (a : PySem.W.plainGet K C Str.empty = true) (b : PySem.W.hasDictIn K C = true) (c : PySem.W.plainOver K C = true) (d : PySem.W.findIn K (.ref C) "__setattr__" = some (some (.builtin "object.__setattr__"))) (e : PySem.W.makesIn K C = true) (k : PySem.W.keepIn K (.ref C) = true) : ClsIn K C := ⟨⟨a, b, c, d⟩, e, k⟩
/-! ### each of them from what a reading of the heap shows -/
section
variable {K : PySem.W.Frag} {x qual : Str} {st : Stmt} {f c C : Addr} {oc : Value} {od : Option Addr} {kV doc pm : Value} {an : Option Addr} {cdv ct : Value} {osl : Array (Option Value)}
theorem defAt (l : K.lookup f = some ⟨oc, od, .func (PySem.W.fnOf x qual (defArgs st) (defBody st) (defScope st) .none kV doc pm an cdv ct), osl⟩) (c : PySem.W.codeIn K cdv qual = true) (k : PySem.W.keepIn K (.ref f) = true) : DefAt K x qual st f :=
  ⟨oc, od, kV, doc, pm, an, cdv, ct, osl, l, c, k⟩
theorem topAt (a : PySem.W.nsIn K mainGlobals x = some (some (.ref f))) (l : K.lookup f = some ⟨oc, od, .func (PySem.W.fnOf x x (defArgs st) (defBody st) (defScope st) .none kV doc pm an cdv ct), osl⟩) (c : PySem.W.codeIn K cdv x = true) (k : PySem.W.keepIn K (.ref f) = true) : TopAt K x st :=
  ⟨f, a, defAt l c k⟩
theorem methAt (a : PySem.W.findIn K (.ref C) x = some (some (.ref f))) (i : PySem.W.isFn K (.ref f) = true) (l : K.lookup f = some ⟨oc, od, .func (PySem.W.fnOf x qual (defArgs st) (defBody st) (defScope st) .none kV doc pm an cdv ct), osl⟩) (c : PySem.W.codeIn K cdv qual = true) (k : PySem.W.keepIn K (.ref f) = true) : MethAt K C x qual st :=
  ⟨f, a, i, defAt l c k⟩
theorem codedAt (a : PySem.W.nsIn K mainGlobals x = some (some (.ref f))) (l : K.lookup f = some ⟨oc, od, .func (PySem.W.fnOf x x (defArgs st) (defBody st) (defScope st) .none kV doc pm an (.ref c) ct), osl⟩) (hc : PySem.W.codeIn K (.ref c) x = true) (k : PySem.W.keepIn K (.ref f) = true) : CodedAt K x st c :=
  ⟨f, a, oc, od, kV, doc, pm, an, ct, osl, l, hc, k⟩
theorem conAt {i : Int} {t : Tok} (a : PySem.W.nsIn K mainGlobals x = some (some (.int i t))) : ConAt K x i := ⟨t, a⟩
theorem tupAt {xs : List V} {its : Array Value} {n : Nat} (l : K.lookup f = some ⟨.type "tuple", od, .seq its n, osl⟩) (z : its.size ≤ sizeLine) (v : Vals xs its.toList) : ∀ H, SqT K H f xs := fun H => .inr ⟨_, its, n, l, rfl, rfl, z, v⟩
theorem tab_empty {H : Hp} {P : Addr} {q : Str} (h : H P = some (.tbl #[])) : TabS H P q := ⟨#[], h, by trivial, fun pos cv e => nomatch e⟩
end
section
variable {K : PySem.W.Frag} {h : Heap} {mg : Str → Option Value} {x qual : Str} {st : Stmt} {f C : Addr}
theorem DefAt.fn (d : DefAt K x qual st f) : ∃ fd, Fun K x qual st f fd := by
  obtain ⟨_, _, _, _, _, _, _, _, _, l, c, k⟩ := d
  exact ⟨_, fun_mk l c k⟩
theorem DefAt.kp (d : DefAt K x qual st f) : PySem.W.keepIn K (.ref f) = true := by
  obtain ⟨_, _, _, _, _, _, _, _, _, l, c, k⟩ := d
  exact k
theorem TopAt.get (X : K.In h) (G : h.Ns mainGlobals mg) (t : TopAt K x st) : ∃ f fd, Fun K x x st f fd ∧ TD K mg x f := by
  obtain ⟨f, a, d⟩ := t
  obtain ⟨fd, F⟩ := d.fn
  exact ⟨f, fd, F, PySem.W.mg_of X G a, d.kp⟩
theorem MethAt.get (t : MethAt K C x qual st) : ∃ f fd, Fun K x qual st f fd ∧ Meth K C x f := by
  obtain ⟨f, a, i, d⟩ := t
  obtain ⟨fd, F⟩ := d.fn
  exact ⟨f, fd, F, a, i, d.kp⟩
theorem ConAt.get {i : Int} (X : K.In h) (G : h.Ns mainGlobals mg) (t : ConAt K x i) : ∃ t, mg x = some (.int i t) := by
  obtain ⟨t, a⟩ := t
  exact ⟨t, PySem.W.mg_of X G a⟩
end
/-- what the top wrote -/
structure Wrote (K : PySem.W.Frag) (C N cA fa c Pt : Addr) : Prop where
  aC : PySem.W.nsIn K mainGlobals "User" = some (some (.ref C))
  cC : ClsIn K C
  nS : PySem.W.findIn K (.ref C) "supply_grade" = some none
  nR : PySem.W.findIn K (.ref C) "return_grade" = some none
  nV : PySem.W.findIn K (.ref C) "value" = some none
  u0 : MethAt K C "__init__" "User.__init__" sUInit
  u1 : MethAt K C "occupies" "User.occupies" sOcc
  u2 : MethAt K C "can_follow" "User.can_follow" sCan
  u3 : MethAt K C "cost" "User.cost" sCost
  t2 : TopAt K "load_of" sLoad
  t3 : TopAt K "peak_load_of" sPeak
  t4 : TopAt K "peak_grade_of" sGrade
  t5 : TopAt K "members_of" sMembers
  t6 : TopAt K "place_for" sPlace
  a7 : CodedAt K "assignment_of" sAssign c
  t9 : TopAt K "value_of_set" sValue
  t10 : TopAt K "peak_load_of_set" sPeakSet
  t11 : TopAt K "best_set_of" sBest
  t12 : TopAt K "best_value_of" sBestV
  t13 : TopAt K "dual_bound_of" sDual
  aN : PySem.W.nsIn K mainGlobals "Network" = some (some (.ref N))
  cN : ClsIn K N
  nG : PySem.W.findIn K (.ref N) "grade_count" = some none
  nU : PySem.W.findIn K (.ref N) "users" = some none
  m0 : MethAt K N "__init__" "Network.__init__" sNInit
  m1 : MethAt K N "exists" "Network.exists" sExists
  m2 : MethAt K N "create" "Network.create" sCreate
  m3 : MethAt K N "add_user" "Network.add_user" sAdd
  m4 : MethAt K N "remove_user" "Network.remove_user" sRemove
  m5 : MethAt K N "list_users" "Network.list_users" sList
  m6 : MethAt K N "set_value" "Network.set_value" sSet
  m7 : MethAt K N "load" "Network.load" sLoadM
  m8 : MethAt K N "peak_load" "Network.peak_load" sPeakM
  m9 : MethAt K N "peak_grade" "Network.peak_grade" sGradeM
  m10 : MethAt K N "min_cascades" "Network.min_cascades" sMin
  m11 : MethAt K N "assign_cascades" "Network.assign_cascades" sAsM
  m12 : MethAt K N "has_user" "Network.has_user" sHasU
  m13 : MethAt K N "has_users_of" "Network.has_users_of" sHasS
  m14 : MethAt K N "can_price" "Network.can_price" sCanP
  m15 : MethAt K N "is_servable" "Network.is_servable" sServ
  m16 : MethAt K N "best_set" "Network.best_set" sBestM
  m17 : MethAt K N "value_of" "Network.value_of" sValM
  m18 : MethAt K N "marginal_value" "Network.marginal_value" sMarg
  m19 : MethAt K N "can_follow" "Network.can_follow" sCanM
  m20 : MethAt K N "peak_users" "Network.peak_users" sPeakU
  m21 : MethAt K N "dual_bound" "Network.dual_bound" sDualM
  m22 : MethAt K N "proves_optimality" "Network.proves_optimality" sProves
  m23 : MethAt K N "loss_without" "Network.loss_without" sLoss
  m24 : MethAt K N "summary" "Network.summary" sSum
  k1 : ConAt K "NO_NETWORK" (-11)
  k2 : ConAt K "NO_SUCH_USER" (-2)
  k3 : ConAt K "OUT_OF_RANGE" (-22)
  k4 : ConAt K "TOO_MANY_USERS" (-28)
  k5 : ConAt K "MOST_GRADES" 12
  k6 : ConAt K "MOST_USERS" 8
  k7 : ConAt K "MOST_VALUE" 100
  k8 : ConAt K "MOST_CASCADES" 8
  k9 : ConAt K "MOST_PRICE" 1000
  o0 : ConAt K "CREATE" 0
  o1 : ConAt K "ADD_USER" 1
  o2 : ConAt K "REMOVE_USER" 2
  o3 : ConAt K "LIST_USERS" 3
  o4 : ConAt K "SET_VALUE" 4
  o5 : ConAt K "LOAD" 5
  o6 : ConAt K "PEAK_LOAD" 6
  o7 : ConAt K "PEAK_GRADE" 7
  o8 : ConAt K "MIN_CASCADES" 8
  o9 : ConAt K "ASSIGN_CASCADES" 9
  o10 : ConAt K "IS_SERVABLE" 10
  o11 : ConAt K "BEST_SET" 11
  o12 : ConAt K "VALUE_OF" 12
  o13 : ConAt K "MARGINAL_VALUE" 13
  o14 : ConAt K "CAN_FOLLOW" 14
  o15 : ConAt K "PEAK_USERS" 15
  o16 : ConAt K "DUAL_BOUND" 16
  o17 : ConAt K "PROVES_OPTIMALITY" 17
  o18 : ConAt K "LOSS_WITHOUT" 18
  aA : PySem.W.nsIn K mainGlobals "ARGUMENT_COUNTS" = some (some (.ref cA))
  sA : ∀ H, SqT K H cA (counts.map vI)
  d1 : TopAt K "answer_about_users" sAboutU
  d2 : TopAt K "answer_about_load" sAboutL
  d3 : TopAt K "answer" sAnswer
  d6 : TopAt K "answer_about_sets" sAboutS
  d7 : TopAt K "answer_the_rest" sRest
  d8 : TopAt K "place_behind" sBehind
  d4 : PySem.W.nsIn K mainGlobals "answers" = some (some (.ref fa))
  d5 : DefAt K "answers" "answers" sAnswers fa
  b1 : PySem.W.nsIn K mainGlobals "len" = some none
  b2 : PySem.W.nsIn K mainGlobals "max" = some none
  b3 : PySem.W.nsIn K mainGlobals "range" = some none
  b4 : PySem.W.nsIn K mainGlobals "sorted" = some none
  b5 : PySem.W.nsIn K mainGlobals "list" = some none
  b6 : PySem.W.nsIn K mainGlobals "sum" = some none
  b7 : PySem.W.nsIn K mainGlobals "int" = some none
theorem all_mk {P : Program} {w : World} {K : PySem.W.Frag} {h : Heap} {mg : Str → Option Value} {C N cA fa fb c Pt : Addr} (X : K.In h) (G : h.Ns mainGlobals mg) (hfa : mg "answers" = some (.ref fa)) (W : Wrote K C N cA fb c Pt) :
    ∃ fd : FuncData, (∀ (s : Shared) (us : List Value), us.length = (["calls"] : List Str).length → BindsTo s fd ⟨us, []⟩ ((["calls"] : List Str).zip us)) ∧
      ∀ base : Heap, TabB base mg c Pt → FnOk P w K mg base CX0 10 fa fd ["calls"] (spAnswers K Pt) := by
  have e := hfa.symm.trans (PySem.W.mg_of X G W.d4)
  cases e
  have B : TB mg := ⟨PySem.W.mg_none_of X G W.b1, PySem.W.mg_none_of X G W.b2, PySem.W.mg_none_of X G W.b3, PySem.W.mg_none_of X G W.b4, PySem.W.mg_none_of X G W.b5⟩
  have B2 : TB2 mg := ⟨PySem.W.mg_none_of X G W.b6, PySem.W.mg_none_of X G W.b7⟩
  have T2 : TN2 mg := ⟨W.k8.get X G, W.k9.get X G⟩
  have T : TN K mg N := ⟨W.cN.cls, W.nG, W.nU, PySem.W.mg_of X G W.aN, W.k1.get X G, W.k2.get X G, W.k3.get X G, W.k4.get X G, W.k5.get X G, W.k6.get X G, W.k7.get X G⟩
  have Tu : TU K mg C := ⟨W.cC.cls, W.nS, W.nR, W.nV, PySem.W.mg_of X G W.aC⟩
  have Tc : TC mg := ⟨W.o0.get X G, W.o1.get X G, W.o2.get X G, W.o3.get X G, W.o4.get X G, W.o5.get X G, W.o6.get X G, W.o7.get X G, W.o8.get X G, W.o9.get X G, W.o10.get X G, W.o11.get X G, W.o12.get X G, W.o13.get X G, W.o14.get X G, W.o15.get X G, W.o16.get X G, W.o17.get X G, W.o18.get X G⟩
  have Ta : TA9 K mg := ⟨⟨cA, PySem.W.mg_of X G W.aA, W.sA⟩⟩
  obtain ⟨fu0, du0, Fu0, Mu0⟩ := W.u0.get
  obtain ⟨fu1, du1, Fu1, Mu1⟩ := W.u1.get
  obtain ⟨fu2, du2, Fu2, Mu2⟩ := W.u2.get
  obtain ⟨fu3, du3, Fu3, Mu3⟩ := W.u3.get
  obtain ⟨ft2, dt2, Ft2, Tt2⟩ := W.t2.get X G
  obtain ⟨ft9, dt9, Ft9, Tt9⟩ := W.t9.get X G
  obtain ⟨ft10, dt10, Ft10, Tt10⟩ := W.t10.get X G
  obtain ⟨ft11, dt11, Ft11, Tt11⟩ := W.t11.get X G
  obtain ⟨ft12, dt12, Ft12, Tt12⟩ := W.t12.get X G
  obtain ⟨ft13, dt13, Ft13, Tt13⟩ := W.t13.get X G
  obtain ⟨ft3, dt3, Ft3, Tt3⟩ := W.t3.get X G
  obtain ⟨ft4, dt4, Ft4, Tt4⟩ := W.t4.get X G
  obtain ⟨ft5, dt5, Ft5, Tt5⟩ := W.t5.get X G
  obtain ⟨ft6, dt6, Ft6, Tt6⟩ := W.t6.get X G
  obtain ⟨f7, a7, oc7, od7, kV7, doc7, pm7, an7, ct7, osl7, l7, c7, k7⟩ := W.a7
  obtain ⟨fm0, dm0, Fm0, Mm0⟩ := W.m0.get
  obtain ⟨fm1, dm1, Fm1, Mm1⟩ := W.m1.get
  obtain ⟨fm2, dm2, Fm2, Mm2⟩ := W.m2.get
  obtain ⟨fm3, dm3, Fm3, Mm3⟩ := W.m3.get
  obtain ⟨fm4, dm4, Fm4, Mm4⟩ := W.m4.get
  obtain ⟨fm5, dm5, Fm5, Mm5⟩ := W.m5.get
  obtain ⟨fm6, dm6, Fm6, Mm6⟩ := W.m6.get
  obtain ⟨fm7, dm7, Fm7, Mm7⟩ := W.m7.get
  obtain ⟨fm8, dm8, Fm8, Mm8⟩ := W.m8.get
  obtain ⟨fm9, dm9, Fm9, Mm9⟩ := W.m9.get
  obtain ⟨fm10, dm10, Fm10, Mm10⟩ := W.m10.get
  obtain ⟨fm11, dm11, Fm11, Mm11⟩ := W.m11.get
  obtain ⟨fm12, dm12, Fm12, Mm12⟩ := W.m12.get
  obtain ⟨fm13, dm13, Fm13, Mm13⟩ := W.m13.get
  obtain ⟨fm14, dm14, Fm14, Mm14⟩ := W.m14.get
  obtain ⟨fm15, dm15, Fm15, Mm15⟩ := W.m15.get
  obtain ⟨fm16, dm16, Fm16, Mm16⟩ := W.m16.get
  obtain ⟨fm17, dm17, Fm17, Mm17⟩ := W.m17.get
  obtain ⟨fm18, dm18, Fm18, Mm18⟩ := W.m18.get
  obtain ⟨fm19, dm19, Fm19, Mm19⟩ := W.m19.get
  obtain ⟨fm20, dm20, Fm20, Mm20⟩ := W.m20.get
  obtain ⟨fm21, dm21, Fm21, Mm21⟩ := W.m21.get
  obtain ⟨fm22, dm22, Fm22, Mm22⟩ := W.m22.get
  obtain ⟨fm23, dm23, Fm23, Mm23⟩ := W.m23.get
  obtain ⟨fm24, dm24, Fm24, Mm24⟩ := W.m24.get
  obtain ⟨fd1, dd1, Fd1, Td1⟩ := W.d1.get X G
  obtain ⟨fd2, dd2, Fd2, Td2⟩ := W.d2.get X G
  obtain ⟨fd3, dd3, Fd3, Td3⟩ := W.d3.get X G
  obtain ⟨fd6, dd6, Fd6, Td6⟩ := W.d6.get X G
  obtain ⟨fd7, dd7, Fd7, Td7⟩ := W.d7.get X G
  obtain ⟨fd8, dd8, Fd8, Td8⟩ := W.d8.get X G
  obtain ⟨oc, od, kV, doc, pm, an, cdv, ct, osl, l9, c9, k9⟩ := W.d5
  have F9 := fun_mk (st := sAnswers) l9 c9 k9
  refine ⟨PySem.W.fnOf "answers" "answers" (defArgs sAnswers) (defBody sAnswers) (defScope sAnswers) .none kV doc pm an cdv ct, fun s us hu => match us, hu with | [_], _ => .of_eq rfl, fun base TBt => ?_⟩
  have F7 := fun_mk (st := sAssign) l7 c7 k7
  have T7 : TD K mg "assignment_of" f7 := ⟨PySem.W.mg_of X G a7, k7⟩
  have bu0 := Fu0.binds (ps := ["self", "supply_grade", "return_grade", "value"]) fun _ _ _ _ _ _ us hl => match us, hl with | [_, _, _, _], _ => rfl
  have bu1 := Fu1.binds (ps := ["self", "grade"]) fun _ _ _ _ _ _ us hl => match us, hl with | [_, _], _ => rfl
  have bu2 := Fu2.binds (ps := ["self", "other"]) fun _ _ _ _ _ _ us hl => match us, hl with | [_, _], _ => rfl
  have bt2 := Ft2.binds (ps := ["users", "grade"]) fun _ _ _ _ _ _ us hl => match us, hl with | [_, _], _ => rfl
  have bt3 := Ft3.binds (ps := ["users", "grade_count"]) fun _ _ _ _ _ _ us hl => match us, hl with | [_, _], _ => rfl
  have bt4 := Ft4.binds (ps := ["users", "grade_count"]) fun _ _ _ _ _ _ us hl => match us, hl with | [_, _], _ => rfl
  have bt5 := Ft5.binds (ps := ["user_set", "user_count"]) fun _ _ _ _ _ _ us hl => match us, hl with | [_, _], _ => rfl
  have bt6 := Ft6.binds (ps := ["users", "cascades", "number"]) fun _ _ _ _ _ _ us hl => match us, hl with | [_, _, _], _ => rfl
  have b7 := F7.binds (ps := ["users", "members"]) fun _ _ _ _ _ _ us hl => match us, hl with | [_, _], _ => rfl
  have bm0 := Fm0.binds (ps := ["self"]) fun _ _ _ _ _ _ us hl => match us, hl with | [_], _ => rfl
  have bm1 := Fm1.binds (ps := ["self"]) fun _ _ _ _ _ _ us hl => match us, hl with | [_], _ => rfl
  have bm2 := Fm2.binds (ps := ["self", "grade_count"]) fun _ _ _ _ _ _ us hl => match us, hl with | [_, _], _ => rfl
  have bm3 := Fm3.binds (ps := ["self", "supply_grade", "return_grade", "value"]) fun _ _ _ _ _ _ us hl => match us, hl with | [_, _, _, _], _ => rfl
  have bm4 := Fm4.binds (ps := ["self", "user"]) fun _ _ _ _ _ _ us hl => match us, hl with | [_, _], _ => rfl
  have bm5 := Fm5.binds (ps := ["self"]) fun _ _ _ _ _ _ us hl => match us, hl with | [_], _ => rfl
  have bm6 := Fm6.binds (ps := ["self", "user", "value"]) fun _ _ _ _ _ _ us hl => match us, hl with | [_, _, _], _ => rfl
  have bm7 := Fm7.binds (ps := ["self", "grade"]) fun _ _ _ _ _ _ us hl => match us, hl with | [_, _], _ => rfl
  have bm8 := Fm8.binds (ps := ["self"]) fun _ _ _ _ _ _ us hl => match us, hl with | [_], _ => rfl
  have bm9 := Fm9.binds (ps := ["self"]) fun _ _ _ _ _ _ us hl => match us, hl with | [_], _ => rfl
  have bm10 := Fm10.binds (ps := ["self"]) fun _ _ _ _ _ _ us hl => match us, hl with | [_], _ => rfl
  have bm11 := Fm11.binds (ps := ["self", "user_set"]) fun _ _ _ _ _ _ us hl => match us, hl with | [_, _], _ => rfl
  have bd1 := Fd1.binds (ps := ["network", "call", "given"]) fun _ _ _ _ _ _ us hl => match us, hl with | [_, _, _], _ => rfl
  have bd2 := Fd2.binds (ps := ["network", "call", "given"]) fun _ _ _ _ _ _ us hl => match us, hl with | [_, _, _], _ => rfl
  have bd3 := Fd3.binds (ps := ["network", "call", "given"]) fun _ _ _ _ _ _ us hl => match us, hl with | [_, _, _], _ => rfl
  have bu3 := Fu3.binds (ps := ["self", "prices"]) fun _ _ _ _ _ _ us hl => match us, hl with | [_, _], _ => rfl
  have bt9 := Ft9.binds (ps := ["users", "user_set"]) fun _ _ _ _ _ _ us hl => match us, hl with | [_, _], _ => rfl
  have bt10 := Ft10.binds (ps := ["users", "grade_count", "user_set"]) fun _ _ _ _ _ _ us hl => match us, hl with | [_, _, _], _ => rfl
  have bt11 := Ft11.binds (ps := ["users", "grade_count", "cascade_count"]) fun _ _ _ _ _ _ us hl => match us, hl with | [_, _, _], _ => rfl
  have bt12 := Ft12.binds (ps := ["users", "grade_count", "cascade_count"]) fun _ _ _ _ _ _ us hl => match us, hl with | [_, _, _], _ => rfl
  have bt13 := Ft13.binds (ps := ["users", "cascade_count", "prices"]) fun _ _ _ _ _ _ us hl => match us, hl with | [_, _, _], _ => rfl
  have bm12 := Fm12.binds (ps := ["self", "user"]) fun _ _ _ _ _ _ us hl => match us, hl with | [_, _], _ => rfl
  have bm13 := Fm13.binds (ps := ["self", "user_set"]) fun _ _ _ _ _ _ us hl => match us, hl with | [_, _], _ => rfl
  have bm14 := Fm14.binds (ps := ["self", "cascade_count", "prices"]) fun _ _ _ _ _ _ us hl => match us, hl with | [_, _, _], _ => rfl
  have bm15 := Fm15.binds (ps := ["self", "user_set", "cascade_count"]) fun _ _ _ _ _ _ us hl => match us, hl with | [_, _, _], _ => rfl
  have bm16 := Fm16.binds (ps := ["self", "cascade_count"]) fun _ _ _ _ _ _ us hl => match us, hl with | [_, _], _ => rfl
  have bm17 := Fm17.binds (ps := ["self", "user_set"]) fun _ _ _ _ _ _ us hl => match us, hl with | [_, _], _ => rfl
  have bm18 := Fm18.binds (ps := ["self", "cascade_count"]) fun _ _ _ _ _ _ us hl => match us, hl with | [_, _], _ => rfl
  have bm19 := Fm19.binds (ps := ["self", "user", "following"]) fun _ _ _ _ _ _ us hl => match us, hl with | [_, _, _], _ => rfl
  have bm20 := Fm20.binds (ps := ["self"]) fun _ _ _ _ _ _ us hl => match us, hl with | [_], _ => rfl
  have bm21 := Fm21.binds (ps := ["self", "cascade_count", "prices"]) fun _ _ _ _ _ _ us hl => match us, hl with | [_, _, _], _ => rfl
  have bm22 := Fm22.binds (ps := ["self", "cascade_count", "prices"]) fun _ _ _ _ _ _ us hl => match us, hl with | [_, _, _], _ => rfl
  have bm23 := Fm23.binds (ps := ["self", "user", "cascade_count"]) fun _ _ _ _ _ _ us hl => match us, hl with | [_, _, _], _ => rfl
  have bm24 := Fm24.binds (ps := ["self"]) fun _ _ _ _ _ _ us hl => match us, hl with | [_], _ => rfl
  have bd6 := Fd6.binds (ps := ["network", "call", "given"]) fun _ _ _ _ _ _ us hl => match us, hl with | [_, _, _], _ => rfl
  have bd7 := Fd7.binds (ps := ["network", "call", "given"]) fun _ _ _ _ _ _ us hl => match us, hl with | [_, _, _], _ => rfl
  have bd8 := Fd8.binds (ps := ["calls", "place"]) fun _ _ _ _ _ _ us hl => match us, hl with | [_, _], _ => rfl
  have Gu0 := ok_uinit (P := P) (w := w) (base := base) Fu0 Tu
  have Gu1 := ok_occ (P := P) (w := w) (base := base) Fu1 Tu
  have Gu2 := ok_can (P := P) (w := w) (base := base) Fu2 Tu
  have Gt2 := ok_load Ft2 Tu B Gu1 bu1 Mu1
  have Gt3 := ok_peak Ft3 B Gt2 bt2 Tt2
  have Gt4 := ok_grade Ft4 Gt2 bt2 Tt2 Gt3 bt3 Tt3
  have Gt5 := ok_members (P := P) (w := w) (base := base) Ft5 B
  have Gt6 := ok_place Ft6 Tu B Gu2 bu2 Mu2
  have G7 := ok_assign l7 c7 TBt Tu B Gt6 bt6 Tt6
  have Gu3 := ok_cost (P := P) (w := w) (base := base) Fu3 Tu B2
  have Gt9 := ok_value Ft9 Tu B B2 Gt5 bt5 Tt5
  have Gt10 := ok_peakSet Ft10 B Gt5 bt5 Tt5 Gt3 bt3 Tt3
  have Gt11 := ok_best Ft11 B Gt9 bt9 Tt9 Gt10 bt10 Tt10
  have Gt12 := ok_bestV Ft12 Gt11 bt11 Tt11
  have Gt13 := ok_dual Ft13 Tu B B2 Gu3 bu3 Mu3
  have Gm0 := ok_ninit (P := P) (w := w) (base := base) (C := C) Fm0 T
  have Gm1 := ok_exists (P := P) (w := w) (base := base) (C := C) Fm1 T
  have Gm2 := ok_create (P := P) (w := w) (base := base) (C := C) (Pt := Pt) Fm2 T
  have Gm12 := ok_hasU (P := P) (w := w) (base := base) (C := C) Fm12 T B
  have Gm13 := ok_hasS (P := P) (w := w) (base := base) (C := C) Fm13 T B
  have Gm14 := ok_canP (P := P) (w := w) (base := base) (C := C) Fm14 T T2 B
  have Gm3 := ok_add (P := P) (w := w) (base := base) (Pt := Pt) Fm3 T B Tu ⟨W.cC.made, Mu0.at_, Mu0.fn, W.cC.kc⟩ Gu0 bu0
  have Gm4 := ok_remove (Pt := Pt) Fm4 T B Gm12 bm12 Mm12
  have Gm5 := ok_list (P := P) (w := w) (base := base) (Pt := Pt) Fm5 T B Tu
  have Gm6 := ok_set (Pt := Pt) Fm6 T B Tu Gm12 bm12 Mm12
  have Gm7 := ok_loadM (Pt := Pt) Fm7 T Gt2 bt2 Tt2
  have Gm8 := ok_peakM (Pt := Pt) Fm8 T Gt3 bt3 Tt3
  have Gm9 := ok_gradeM (Pt := Pt) Fm9 T Gt4 bt4 Tt4
  have Gm10 := ok_min Fm10 T B G7 b7 T7
  have Gm11 := ok_assignM Fm11 T B Gm13 bm13 Mm13 G7 b7 T7 Gt5 bt5 Tt5
  have Gm15 := ok_serv (Pt := Pt) Fm15 T B2 Gm13 bm13 Mm13 Gt10 bt10 Tt10
  have Gm16 := ok_bestM (Pt := Pt) Fm16 T T2 B Gt11 bt11 Tt11
  have Gm17 := ok_valM (Pt := Pt) Fm17 T Gm13 bm13 Mm13 Gt9 bt9 Tt9
  have Gm18 := ok_marg (Pt := Pt) Fm18 T T2 Gt12 bt12 Tt12
  have Gm19 := ok_canM (Pt := Pt) Fm19 T B2 Tu Gm12 bm12 Mm12 Gu2 bu2 Mu2
  have Gm20 := ok_peakU (Pt := Pt) Fm20 T B Tu Gt4 bt4 Tt4 Gu1 bu1 Mu1
  have Gm21 := ok_dualM (Pt := Pt) Fm21 T Gm14 bm14 Mm14 Gt13 bt13 Tt13
  have Gm22 := ok_proves (Pt := Pt) Fm22 T B2 Gm14 bm14 Mm14 Gt13 bt13 Tt13 Gt12 bt12 Tt12
  have Gm23 := ok_loss (Pt := Pt) Fm23 T T2 Gm12 bm12 Mm12 Gt12 bt12 Tt12
  have Gm24 := ok_sum (P := P) (w := w) (base := base) (C := C) (Pt := Pt) Fm24 T B
  have Gd1 := ok_aboutU Fd1 T Tc ⟨_, _, Gm3.mono (by decide), bm3, Mm3⟩ ⟨_, _, Gm4.mono (by decide), bm4, Mm4⟩ ⟨_, _, Gm5.mono (by decide), bm5, Mm5⟩ ⟨_, _, Gm6.mono (by decide), bm6, Mm6⟩
  have Gd2 := ok_aboutL Fd2 T Tc ⟨_, _, Gm7.mono (by decide), bm7, Mm7⟩ ⟨_, _, Gm8.mono (by decide), bm8, Mm8⟩ ⟨_, _, Gm9.mono (by decide), bm9, Mm9⟩ ⟨_, _, Gm10.mono (by decide), bm10, Mm10⟩ ⟨_, _, Gm11.mono (by decide), bm11, Mm11⟩
  have Gd6 := ok_aboutS Fd6 T Tc ⟨_, _, Gm15.mono (by decide), bm15, Mm15⟩ ⟨_, _, Gm16.mono (by decide), bm16, Mm16⟩ ⟨_, _, Gm17.mono (by decide), bm17, Mm17⟩ ⟨_, _, Gm18.mono (by decide), bm18, Mm18⟩
  have Gd7 := ok_rest Fd7 T Tc ⟨_, _, Gm19.mono (by decide), bm19, Mm19⟩ ⟨_, _, Gm20.mono (by decide), bm20, Mm20⟩ ⟨_, _, Gm21.mono (by decide), bm21, Mm21⟩ ⟨_, _, Gm22.mono (by decide), bm22, Mm22⟩ ⟨_, _, Gm23.mono (by decide), bm23, Mm23⟩ ⟨_, _, Gm24.mono (by decide), bm24, Mm24⟩
  have Gd3 := ok_answer Fd3 T Tc Gm2 bm2 Mm2 Gm1 bm1 Mm1 Gd1 bd1 Td1 Gd2 bd2 Td2 Gd6 bd6 Td6 Gd7 bd7 Td7
  have Gd8 := ok_behind (P := P) (w := w) (base := base) Fd8 Ta Tc
  exact ok_answers F9 T B Gd8 bd8 Td8 ⟨W.cN.made, Mm0.at_, Mm0.fn, W.cN.kc⟩ Gm0 bm0 Gd3 bd3 Td3
end HD

open PySem PySem.W PyProof.Rows
set_option Elab.async false
set_option linter.all false
set_option maxRecDepth 100000 in
set_option maxHeartbeats 8000000 in
theorem PySem.Challenge.cw_heatcascades_s01_answers_holds : PySem.Challenge.rw_heatcascades_s01_answers.Holds := by
  w_on; k_headS; (case hw => exact ⟨[.list [.int 3]], by decide +kernel, by decide +kernel⟩)
  k_fillS
  refine RowEnd.row_end (r := PySem.Challenge.rw_heatcascades_s01_answers) (k := 10) (CX := L2.CX0) (ps := ["calls"]) (by decide +kernel) rfl ⟨rfl, by decide, by decide⟩ (fun w h Y => PySem.W.kIn_of Y) (fun _ _ _ _ z => z) ?F
  case F =>
    intro w mean mg mb fa h Y KX T hmg
    obtain ⟨CH, hT⟩ := PySem.W.tab_of T KX (x := "assignment_of") (c := 91) (P := 87) rfl (by kernel_rfl)
    refine' Exists.elim (HD.all_mk (P := PySem.Challenge.rw_heatcascades_s01_answers.prog) (w := w) (c := 91) (Pt := 87) KX T.g hmg ?W) ?rest
    case W =>
      refine' HD.Wrote.mk ?aC (HD.clsAt ?cC_pg ?cC_hd ?cC_po ?cC_sa ?cC_mk ?cC_kc) ?nS ?nR ?nV (HD.methAt ?u0_a ?u0_i ?u0_l ?u0_c ?u0_k) (HD.methAt ?u1_a ?u1_i ?u1_l ?u1_c ?u1_k) (HD.methAt ?u2_a ?u2_i ?u2_l ?u2_c ?u2_k) (HD.methAt ?u3_a ?u3_i ?u3_l ?u3_c ?u3_k) (HD.topAt ?t2_a ?t2_l ?t2_c ?t2_k) (HD.topAt ?t3_a ?t3_l ?t3_c ?t3_k) (HD.topAt ?t4_a ?t4_l ?t4_c ?t4_k) (HD.topAt ?t5_a ?t5_l ?t5_c ?t5_k) (HD.topAt ?t6_a ?t6_l ?t6_c ?t6_k) (HD.codedAt ?a7_a ?a7_l ?a7_c ?a7_k) (HD.topAt ?t9_a ?t9_l ?t9_c ?t9_k) (HD.topAt ?t10_a ?t10_l ?t10_c ?t10_k) (HD.topAt ?t11_a ?t11_l ?t11_c ?t11_k) (HD.topAt ?t12_a ?t12_l ?t12_c ?t12_k) (HD.topAt ?t13_a ?t13_l ?t13_c ?t13_k) ?aN (HD.clsAt ?cN_pg ?cN_hd ?cN_po ?cN_sa ?cN_mk ?cN_kc) ?nG ?nU (HD.methAt ?m0_a ?m0_i ?m0_l ?m0_c ?m0_k) (HD.methAt ?m1_a ?m1_i ?m1_l ?m1_c ?m1_k) (HD.methAt ?m2_a ?m2_i ?m2_l ?m2_c ?m2_k) (HD.methAt ?m3_a ?m3_i ?m3_l ?m3_c ?m3_k) (HD.methAt ?m4_a ?m4_i ?m4_l ?m4_c ?m4_k) (HD.methAt ?m5_a ?m5_i ?m5_l ?m5_c ?m5_k) (HD.methAt ?m6_a ?m6_i ?m6_l ?m6_c ?m6_k) (HD.methAt ?m7_a ?m7_i ?m7_l ?m7_c ?m7_k) (HD.methAt ?m8_a ?m8_i ?m8_l ?m8_c ?m8_k) (HD.methAt ?m9_a ?m9_i ?m9_l ?m9_c ?m9_k) (HD.methAt ?m10_a ?m10_i ?m10_l ?m10_c ?m10_k) (HD.methAt ?m11_a ?m11_i ?m11_l ?m11_c ?m11_k) (HD.methAt ?m12_a ?m12_i ?m12_l ?m12_c ?m12_k) (HD.methAt ?m13_a ?m13_i ?m13_l ?m13_c ?m13_k) (HD.methAt ?m14_a ?m14_i ?m14_l ?m14_c ?m14_k) (HD.methAt ?m15_a ?m15_i ?m15_l ?m15_c ?m15_k) (HD.methAt ?m16_a ?m16_i ?m16_l ?m16_c ?m16_k) (HD.methAt ?m17_a ?m17_i ?m17_l ?m17_c ?m17_k) (HD.methAt ?m18_a ?m18_i ?m18_l ?m18_c ?m18_k) (HD.methAt ?m19_a ?m19_i ?m19_l ?m19_c ?m19_k) (HD.methAt ?m20_a ?m20_i ?m20_l ?m20_c ?m20_k) (HD.methAt ?m21_a ?m21_i ?m21_l ?m21_c ?m21_k) (HD.methAt ?m22_a ?m22_i ?m22_l ?m22_c ?m22_k) (HD.methAt ?m23_a ?m23_i ?m23_l ?m23_c ?m23_k) (HD.methAt ?m24_a ?m24_i ?m24_l ?m24_c ?m24_k) (HD.conAt ?k1) (HD.conAt ?k2) (HD.conAt ?k3) (HD.conAt ?k4) (HD.conAt ?k5) (HD.conAt ?k6) (HD.conAt ?k7) (HD.conAt ?k8) (HD.conAt ?k9) (HD.conAt ?o0) (HD.conAt ?o1) (HD.conAt ?o2) (HD.conAt ?o3) (HD.conAt ?o4) (HD.conAt ?o5) (HD.conAt ?o6) (HD.conAt ?o7) (HD.conAt ?o8) (HD.conAt ?o9) (HD.conAt ?o10) (HD.conAt ?o11) (HD.conAt ?o12) (HD.conAt ?o13) (HD.conAt ?o14) (HD.conAt ?o15) (HD.conAt ?o16) (HD.conAt ?o17) (HD.conAt ?o18) ?aA (HD.tupAt ?sA_l ?sA_z ?sA_v) (HD.topAt ?d1_a ?d1_l ?d1_c ?d1_k) (HD.topAt ?d2_a ?d2_l ?d2_c ?d2_k) (HD.topAt ?d3_a ?d3_l ?d3_c ?d3_k) (HD.topAt ?d6_a ?d6_l ?d6_c ?d6_k) (HD.topAt ?d7_a ?d7_l ?d7_c ?d7_k) (HD.topAt ?d8_a ?d8_l ?d8_c ?d8_k) ?d4 (HD.defAt ?d5_l ?d5_c ?d5_k) ?b1 ?b2 ?b3 ?b4 ?b5 ?b6 ?b7
      (case aC => k_is); (case cC_pg => k_is); (case cC_hd => k_is); (case cC_po => k_is); (case cC_sa => k_is); (case cC_mk => k_is); (case cC_kc => k_is); (case nS => k_is)
      (case nR => k_is); (case nV => k_is); (case u0_a => k_is); (case u0_i => k_is); (case u0_l => k_is); (case u0_c => k_is); (case u0_k => k_is); (case u1_a => k_is)
      (case u1_i => k_is); (case u1_l => k_is); (case u1_c => k_is); (case u1_k => k_is); (case u2_a => k_is); (case u2_i => k_is); (case u2_l => k_is); (case u2_c => k_is)
      (case u2_k => k_is); (case u3_a => k_is); (case u3_i => k_is); (case u3_l => k_is); (case u3_c => k_is); (case u3_k => k_is); (case t2_a => k_is); (case t2_l => k_is)
      (case t2_c => k_is); (case t2_k => k_is); (case t3_a => k_is); (case t3_l => k_is); (case t3_c => k_is); (case t3_k => k_is); (case t4_a => k_is); (case t4_l => k_is)
      (case t4_c => k_is); (case t4_k => k_is); (case t5_a => k_is); (case t5_l => k_is); (case t5_c => k_is); (case t5_k => k_is); (case t6_a => k_is); (case t6_l => k_is)
      (case t6_c => k_is); (case t6_k => k_is); (case a7_a => k_is); (case a7_l => k_is); (case a7_c => k_is); (case a7_k => k_is); (case t9_a => k_is); (case t9_l => k_is)
      (case t9_c => k_is); (case t9_k => k_is); (case t10_a => k_is); (case t10_l => k_is); (case t10_c => k_is); (case t10_k => k_is); (case t11_a => k_is); (case t11_l => k_is)
      (case t11_c => k_is); (case t11_k => k_is); (case t12_a => k_is); (case t12_l => k_is); (case t12_c => k_is); (case t12_k => k_is); (case t13_a => k_is); (case t13_l => k_is)
      (case t13_c => k_is); (case t13_k => k_is); (case aN => k_is); (case cN_pg => k_is); (case cN_hd => k_is); (case cN_po => k_is); (case cN_sa => k_is); (case cN_mk => k_is)
      (case cN_kc => k_is); (case nG => k_is); (case nU => k_is); (case m0_a => k_is); (case m0_i => k_is); (case m0_l => k_is); (case m0_c => k_is); (case m0_k => k_is)
      (case m1_a => k_is); (case m1_i => k_is); (case m1_l => k_is); (case m1_c => k_is); (case m1_k => k_is); (case m2_a => k_is); (case m2_i => k_is); (case m2_l => k_is)
      (case m2_c => k_is); (case m2_k => k_is); (case m3_a => k_is); (case m3_i => k_is); (case m3_l => k_is); (case m3_c => k_is); (case m3_k => k_is); (case m4_a => k_is)
      (case m4_i => k_is); (case m4_l => k_is); (case m4_c => k_is); (case m4_k => k_is); (case m5_a => k_is); (case m5_i => k_is); (case m5_l => k_is); (case m5_c => k_is)
      (case m5_k => k_is); (case m6_a => k_is); (case m6_i => k_is); (case m6_l => k_is); (case m6_c => k_is); (case m6_k => k_is); (case m7_a => k_is); (case m7_i => k_is)
      (case m7_l => k_is); (case m7_c => k_is); (case m7_k => k_is); (case m8_a => k_is); (case m8_i => k_is); (case m8_l => k_is); (case m8_c => k_is); (case m8_k => k_is)
      (case m9_a => k_is); (case m9_i => k_is); (case m9_l => k_is); (case m9_c => k_is); (case m9_k => k_is); (case m10_a => k_is); (case m10_i => k_is); (case m10_l => k_is)
      (case m10_c => k_is); (case m10_k => k_is); (case m11_a => k_is); (case m11_i => k_is); (case m11_l => k_is); (case m11_c => k_is); (case m11_k => k_is); (case m12_a => k_is)
      (case m12_i => k_is); (case m12_l => k_is); (case m12_c => k_is); (case m12_k => k_is); (case m13_a => k_is); (case m13_i => k_is); (case m13_l => k_is); (case m13_c => k_is)
      (case m13_k => k_is); (case m14_a => k_is); (case m14_i => k_is); (case m14_l => k_is); (case m14_c => k_is); (case m14_k => k_is); (case m15_a => k_is); (case m15_i => k_is)
      (case m15_l => k_is); (case m15_c => k_is); (case m15_k => k_is); (case m16_a => k_is); (case m16_i => k_is); (case m16_l => k_is); (case m16_c => k_is); (case m16_k => k_is)
      (case m17_a => k_is); (case m17_i => k_is); (case m17_l => k_is); (case m17_c => k_is); (case m17_k => k_is); (case m18_a => k_is); (case m18_i => k_is); (case m18_l => k_is)
      (case m18_c => k_is); (case m18_k => k_is); (case m19_a => k_is); (case m19_i => k_is); (case m19_l => k_is); (case m19_c => k_is); (case m19_k => k_is); (case m20_a => k_is)
      (case m20_i => k_is); (case m20_l => k_is); (case m20_c => k_is); (case m20_k => k_is); (case m21_a => k_is); (case m21_i => k_is); (case m21_l => k_is); (case m21_c => k_is)
      (case m21_k => k_is); (case m22_a => k_is); (case m22_i => k_is); (case m22_l => k_is); (case m22_c => k_is); (case m22_k => k_is); (case m23_a => k_is); (case m23_i => k_is)
      (case m23_l => k_is); (case m23_c => k_is); (case m23_k => k_is); (case m24_a => k_is); (case m24_i => k_is); (case m24_l => k_is); (case m24_c => k_is); (case m24_k => k_is)
      (case k1 => k_is); (case k2 => k_is); (case k3 => k_is); (case k4 => k_is); (case k5 => k_is); (case k6 => k_is); (case k7 => k_is); (case k8 => k_is)
      (case k9 => k_is); (case o0 => k_is); (case o1 => k_is); (case o2 => k_is); (case o3 => k_is); (case o4 => k_is); (case o5 => k_is); (case o6 => k_is)
      (case o7 => k_is); (case o8 => k_is); (case o9 => k_is); (case o10 => k_is); (case o11 => k_is); (case o12 => k_is); (case o13 => k_is); (case o14 => k_is)
      (case o15 => k_is); (case o16 => k_is); (case o17 => k_is); (case o18 => k_is); (case aA => k_is); (case sA_l => k_is); (case sA_z => decide); (case sA_v => exact .cons ⟨_, rfl⟩ (.cons ⟨_, rfl⟩ (.cons ⟨_, rfl⟩ (.cons ⟨_, rfl⟩ (.cons ⟨_, rfl⟩ (.cons ⟨_, rfl⟩ (.cons ⟨_, rfl⟩ (.cons ⟨_, rfl⟩ (.cons ⟨_, rfl⟩ (.cons ⟨_, rfl⟩ (.cons ⟨_, rfl⟩ (.cons ⟨_, rfl⟩ (.cons ⟨_, rfl⟩ (.cons ⟨_, rfl⟩ (.cons ⟨_, rfl⟩ (.cons ⟨_, rfl⟩ (.cons ⟨_, rfl⟩ (.cons ⟨_, rfl⟩ (.cons ⟨_, rfl⟩ (.cons ⟨_, rfl⟩ (.nil)))))))))))))))))))))
      (case d1_a => k_is); (case d1_l => k_is); (case d1_c => k_is); (case d1_k => k_is); (case d2_a => k_is); (case d2_l => k_is); (case d2_c => k_is); (case d2_k => k_is)
      (case d3_a => k_is); (case d3_l => k_is); (case d3_c => k_is); (case d3_k => k_is); (case d6_a => k_is); (case d6_l => k_is); (case d6_c => k_is); (case d6_k => k_is)
      (case d7_a => k_is); (case d7_l => k_is); (case d7_c => k_is); (case d7_k => k_is); (case d8_a => k_is); (case d8_l => k_is); (case d8_c => k_is); (case d8_k => k_is)
      (case d4 => k_is); (case d5_l => k_is); (case d5_c => k_is); (case d5_k => k_is); (case b1 => k_is); (case b2 => k_is); (case b3 => k_is); (case b4 => k_is)
      (case b5 => k_is); (case b6 => k_is); (case b7 => k_is)
    rintro fd ⟨hb, hF⟩
    refine ⟨fd, [(91, 87)], HD.spAnswers _ 87, ?v, ?o, ?c, hb, ?s, fun base _ _ hTB => hF base (hTB _ (.head _))⟩
    case v =>
      intro t m
      rw [List.mem_singleton.mp m]
      exact hT
    case o =>
      intro t m
      rw [List.mem_singleton.mp m]
      exact rfl
    case c =>
      intro t m
      rw [List.mem_singleton.mp m]
      exact CH
    case s =>
      intro H xs a hH hwi hask hx
      cases hx with
      | cons h1 h2 =>
        cases h2
        cases h1 with
        | lst hs ha =>
          have e := L2.ints_dw a.1 _ ha
          subst e
          obtain ⟨qs, hl, sm, han, short⟩ := HC.asked_reqs (l := a.1) hask
          refine ⟨_, qs, rfl, ?_, ?_, short, fun H' p hp => ?_⟩
          · rw [hl] at hs
            exact hs
          · intro pr hpr
            rw [List.mem_singleton.mp hpr]
            exact HD.tab_empty (hH _ (.head _))
          · show L2.Dw _ H' (.ref p) (.list ((PyKqk3.answers a.1).map WData.int))
            rw [han]
            exact .lst (L2.SqL.of hp) (L2.dw_ints _)
