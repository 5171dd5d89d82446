import PyProof.Rows.All
import Wide.All
import OpenK.AllK
import Wide.FinOn
import Open.SpecLaws
import KE.OsGo
import HandS.ForSpec
import HandS.Comp
import HandS.SetFor
import HandS.Iter
import HandS.Text
import HandS.SortKw
import KE.OsArith
import PySem.Challenge.RW_jointwalls_s01_answers
set_option Elab.async false
set_option linter.all false
set_option maxRecDepth 100000
set_option maxHeartbeats 4000000
namespace Jw
open Sr112
/-! ### rows -/
/-- the rows of one length; the fuel is the length -/
def rowsL (ks : List Nat) (m : Nat) : List Row := rowsOfLength ks m m
theorem rows_fuel (ks : List Nat) : ∀ (f m : Nat), m ≤ f → rowsOfLength ks f m = rowsL ks m
  | 0, m, h => by
    have e : m = 0 := by omega
    subst e
    rfl
  | f + 1, 0, h => by
    show (if 0 = 0 then [[]] else _) = (if 0 = 0 then [[]] else [])
    rfl
  | f + 1, m + 1, h => by
    show (if m + 1 = 0 then [[]] else (ks.filter fun k => decide (1 ≤ k) && decide (k ≤ m + 1)).flatMap fun k => (rowsOfLength ks f (m + 1 - k)).map fun r => k :: r)
      = (if m + 1 = 0 then [[]] else (ks.filter fun k => decide (1 ≤ k) && decide (k ≤ m + 1)).flatMap fun k => (rowsOfLength ks m (m + 1 - k)).map fun r => k :: r)
    rw [if_neg (by omega), if_neg (by omega)]
    rw [List.flatMap_def, List.flatMap_def]
    refine congrArg List.flatten (List.map_congr_left fun k hk => ?_)
    have hk' := (List.mem_filter.mp hk).2
    simp only [Bool.and_eq_true, decide_eq_true_eq] at hk'
    rw [rows_fuel ks f (m + 1 - k) (by omega), rows_fuel ks m (m + 1 - k) (by omega)]
theorem rowsL_zero (ks : List Nat) : rowsL ks 0 = [[]] := rfl
theorem rowsL_succ (ks : List Nat) (m : Nat) : rowsL ks (m + 1) = (ks.filter fun k => decide (1 ≤ k) && decide (k ≤ m + 1)).flatMap fun k => (rowsL ks (m + 1 - k)).map fun r => k :: r := by
  show (if m + 1 = 0 then [[]] else (ks.filter fun k => decide (1 ≤ k) && decide (k ≤ m + 1)).flatMap fun k => (rowsOfLength ks m (m + 1 - k)).map fun r => k :: r) = _
  rw [if_neg (by omega)]
  rw [List.flatMap_def, List.flatMap_def]
  refine congrArg List.flatten (List.map_congr_left fun k hk => ?_)
  have hk' := (List.mem_filter.mp hk).2
  simp only [Bool.and_eq_true, decide_eq_true_eq] at hk'
  rw [rows_fuel ks m (m + 1 - k) (by omega)]
/-- the rows that begin with one of these stones -/
def rowsFrom (ks : List Nat) (m : Nat) (js : List Nat) : List Row := (js.filter fun k => decide (k ≤ m)).flatMap fun k => (rowsL ks (m - k)).map fun r => k :: r
theorem rowsL_from {ks : List Nat} (h1 : ∀ k ∈ ks, 1 ≤ k) (m : Nat) : rowsL ks (m + 1) = rowsFrom ks (m + 1) ks := by
  rw [rowsL_succ]
  unfold rowsFrom
  congr 1
  refine List.filter_congr fun k hk => ?_
  rw [decide_eq_true (h1 k hk)]
  rfl
theorem rowsFrom_nil (ks : List Nat) (m : Nat) : rowsFrom ks m [] = [] := rfl
theorem rowsFrom_more (ks : List Nat) (m : Nat) (js : List Nat) (k : Nat) : rowsFrom ks m (js ++ [k]) = rowsFrom ks m js ++ (if k ≤ m then (rowsL ks (m - k)).map fun r => k :: r else []) := by
  unfold rowsFrom
  rw [List.filter_append, List.flatMap_append]
  congr 1
  by_cases h : k ≤ m
  · rw [if_pos h]
    simp [h]
  · rw [if_neg h]
    simp [h]
/-- there are at most four stone lengths -/
theorem rowsL_len {ks : List Nat} (h4 : ks.length ≤ 4) : ∀ (n m : Nat), m ≤ n → (rowsL ks m).length ≤ 4 ^ m
  | _, 0, _ => by
    rw [rowsL_zero]
    exact Nat.le_refl _
  | 0, m + 1, h => by omega
  | n + 1, m + 1, h => by
    rw [rowsL_succ, List.length_flatMap]
    have key : ∀ js : List Nat, (∀ k ∈ js, 1 ≤ k ∧ k ≤ m + 1) → (js.map fun k => ((rowsL ks (m + 1 - k)).map fun r => k :: r).length).sum ≤ js.length * 4 ^ m := by
      intro js
      induction js with
      | nil => intro _; simp
      | cons k r ih =>
        intro hk
        have h1 := hk k (List.mem_cons_self ..)
        have e := rowsL_len h4 n (m + 1 - k) (by omega)
        have e2 : 4 ^ (m + 1 - k) ≤ 4 ^ m := Nat.pow_le_pow_right (by omega) (by omega)
        have e3 := ih fun j hj => hk j (List.mem_cons_of_mem _ hj)
        rw [List.map_cons, List.sum_cons, List.length_map, List.length_cons, Nat.succ_mul]
        omega
    have hl : (ks.filter fun k => decide (1 ≤ k) && decide (k ≤ m + 1)).length ≤ 4 := Nat.le_trans (List.length_filter_le _ _) h4
    refine Nat.le_trans (key _ fun k hk => ?_) ?_
    · have hk' := (List.mem_filter.mp hk).2
      simp only [Bool.and_eq_true, decide_eq_true_eq] at hk'
      exact hk'
    · rw [Nat.pow_succ, Nat.mul_comm (4 ^ m) 4]
      exact Nat.mul_le_mul_right _ hl
theorem rows_le {ks : List Nat} (h4 : ks.length ≤ 4) {m : Nat} (hm : m ≤ 9) : (rowsL ks m).length ≤ 262144 := by
  have h := rowsL_len h4 m m (Nat.le_refl _)
  have e : 4 ^ m ≤ 4 ^ 9 := Nat.pow_le_pow_right (by omega) hm
  have e2 : (4 : Nat) ^ 9 = 262144 := by decide
  omega
/-- what a row is -/
theorem mem_rowsL {ks : List Nat} (h1 : ∀ k ∈ ks, 1 ≤ k) (r : Row) : ∀ m : Nat, r ∈ rowsL ks m ↔ (∀ k ∈ r, k ∈ ks) ∧ r.sum = m := by
  induction r with
  | nil =>
    intro m
    cases m with
    | zero => simp [rowsL_zero]
    | succ m =>
      rw [rowsL_succ]
      simp
  | cons k r ih =>
    intro m
    cases m with
    | zero =>
      rw [rowsL_zero]
      simp only [List.mem_singleton, reduceCtorEq, List.sum_cons, false_iff]
      rintro ⟨a, b⟩
      have := h1 k (a k (List.mem_cons_self ..))
      omega
    | succ m =>
      rw [rowsL_succ]
      simp only [List.mem_flatMap, List.mem_filter, Bool.and_eq_true, decide_eq_true_eq, List.mem_map, List.sum_cons]
      constructor
      · rintro ⟨j, ⟨hj, hj1, hjm⟩, s, hs, e⟩
        obtain ⟨rfl, rfl⟩ := List.cons.inj e
        have h := (ih (m + 1 - j)).mp hs
        refine ⟨fun x hx => ?_, by omega⟩
        rcases List.mem_cons.mp hx with rfl | hx
        · exact hj
        · exact h.1 x hx
      · rintro ⟨a, b⟩
        refine ⟨k, ⟨a k (List.mem_cons_self ..), h1 k (a k (List.mem_cons_self ..)), by omega⟩, r, ?_, rfl⟩
        exact (ih (m + 1 - k)).mpr ⟨fun x hx => a x (List.mem_cons_of_mem _ hx), by omega⟩
/-- a row of a wall is not longer than the wall -/
theorem row_len {ks : List Nat} (h1 : ∀ k ∈ ks, 1 ≤ k) {r : Row} {m : Nat} (h : r ∈ rowsL ks m) : r.length ≤ m := by
  obtain ⟨a, b⟩ := (mem_rowsL h1 r m).mp h
  have key : ∀ l : List Nat, (∀ k ∈ l, 1 ≤ k) → l.length ≤ l.sum := by
    intro l
    induction l with
    | nil => intro _; simp
    | cons k t ih =>
      intro hk
      have := hk k (List.mem_cons_self ..)
      have := ih fun j hj => hk j (List.mem_cons_of_mem _ hj)
      rw [List.length_cons, List.sum_cons]
      omega
  have := key r fun k hk => h1 k (a k hk)
  omega
/-! ### joints -/
/-- the sums of the beginnings -/
def ends (s : Nat) : List Nat → List Nat
  | [] => []
  | k :: r => (s + k) :: ends (s + k) r
theorem ends_more (l : List Nat) (k s : Nat) : ends s (l ++ [k]) = ends s l ++ [s + l.sum + k] := by
  induction l generalizing s with
  | nil => simp [ends]
  | cons a r ih =>
    show (s + a) :: ends (s + a) (r ++ [k]) = (s + a) :: (ends (s + a) r ++ _)
    rw [ih, List.sum_cons, Nat.add_assoc s a]
theorem ends_len (l : List Nat) (s : Nat) : (ends s l).length = l.length := by
  induction l generalizing s with
  | nil => rfl
  | cons a r ih =>
    show (ends (s + a) r).length + 1 = r.length + 1
    rw [ih]
theorem ends_shift (l : List Nat) (s t : Nat) : ends (s + t) l = (ends s l).map fun x => x + t := by
  induction l generalizing s with
  | nil => rfl
  | cons a r ih =>
    show (s + t + a) :: ends (s + t + a) r = (s + a + t) :: (ends (s + a) r).map fun x => x + t
    rw [← ih, show s + t + a = s + a + t by omega]
theorem joints_ends : ∀ r : Row, joints r = ends 0 r.dropLast
  | [] => rfl
  | [_] => rfl
  | k :: a :: r => by
    show k :: (joints (a :: r)).map (fun x => x + k) = ends 0 (k :: (a :: r).dropLast)
    rw [joints_ends (a :: r)]
    show _ = (0 + k) :: ends (0 + k) (a :: r).dropLast
    rw [ends_shift, Nat.zero_add]
theorem joints_len (r : Row) : (joints r).length = r.length - 1 := by
  rw [joints_ends, ends_len, List.length_dropLast]
/-- the stones of the row but the last -/
theorem compat_sym (r s : Row) : areCompatible r s = areCompatible s r := by
  unfold areCompatible
  rw [Bool.eq_iff_iff]
  simp only [List.all_eq_true, Bool.not_eq_true', List.contains_eq_mem, decide_eq_false_iff_not]
  exact ⟨fun h x hx hy => h x hy hx, fun h x hx hy => h x hy hx⟩
end Jw
namespace Jw
open Sr112
/-! ### the wall as it is kept -/
structure Good (w : Wall) : Prop where
  l1 : 1 ≤ w.length
  l9 : w.length ≤ 9
  n4 : w.stoneLengths.length ≤ 4
  s1 : ∀ k ∈ w.stoneLengths, 1 ≤ k ∧ k ≤ 9
  up : w.stoneLengths.Pairwise (· < ·)
theorem rows_eq (w : Wall) : rows w = rowsL w.stoneLengths w.length := rfl
theorem Good.ge {w : Wall} (g : Good w) : ∀ k ∈ w.stoneLengths, 1 ≤ k := fun k h => (g.s1 k h).1
theorem Good.rows_le {w : Wall} (g : Good w) : (rows w).length ≤ 262144 := Jw.rows_le g.n4 g.l9
theorem Good.row_len {w : Wall} (g : Good w) {r : Row} (h : r ∈ rows w) : r.length ≤ 9 := Nat.le_trans (Jw.row_len g.ge h) g.l9
theorem Good.mem {w : Wall} (g : Good w) (r : Row) : r ∈ rows w ↔ (∀ k ∈ r, k ∈ w.stoneLengths) ∧ r.sum = w.length := mem_rowsL g.ge r w.length
/-! ### one more stone length -/
theorem mem_insert (k x : Nat) : ∀ l : List Nat, x ∈ insertLength k l ↔ x = k ∨ x ∈ l
  | [] => by simp [insertLength]
  | a :: r => by
    unfold insertLength
    split
    · simp
    · simp only [List.mem_cons, mem_insert k x r]
      constructor
      · rintro (h | h | h)
        · exact .inr (.inl h)
        · exact .inl h
        · exact .inr (.inr h)
      · rintro (h | h | h)
        · exact .inr (.inl h)
        · exact .inl h
        · exact .inr (.inr h)
theorem insert_len (k : Nat) : ∀ l : List Nat, (insertLength k l).length = l.length + 1
  | [] => rfl
  | a :: r => by
    unfold insertLength
    split
    · rfl
    · show (insertLength k r).length + 1 = r.length + 1 + 1
      rw [insert_len k r]
theorem insert_perm (k : Nat) : ∀ l : List Nat, (insertLength k l).Perm (l ++ [k])
  | [] => List.Perm.refl _
  | a :: r => by
    unfold insertLength
    split
    · exact (List.perm_append_singleton k (a :: r)).symm
    · exact (insert_perm k r).cons a
theorem insert_up (k : Nat) : ∀ l : List Nat, l.Pairwise (· < ·) → k ∉ l → (insertLength k l).Pairwise (· < ·)
  | [], _, _ => by simp [insertLength]
  | a :: r, h, hk => by
    have ha : k ≠ a := fun e => hk (by rw [e]; exact List.mem_cons_self ..)
    have hr : k ∉ r := fun e => hk (List.mem_cons_of_mem _ e)
    obtain ⟨h1, h2⟩ := List.pairwise_cons.mp h
    unfold insertLength
    split
    · rename_i hlt
      refine List.pairwise_cons.mpr ⟨fun x hx => ?_, h⟩
      rcases List.mem_cons.mp hx with rfl | hx
      · exact hlt
      · exact Nat.lt_trans hlt (h1 x hx)
    · rename_i hlt
      refine List.pairwise_cons.mpr ⟨fun x hx => ?_, insert_up k r h2 hr⟩
      rcases (mem_insert k x r).mp hx with rfl | hx
      · omega
      · exact h1 x hx
theorem Good.add {w : Wall} (g : Good w) {k : Nat} (hk : 1 ≤ k ∧ k ≤ 9) (hn : k ∉ w.stoneLengths) (hl : w.stoneLengths.length < 4) : Good { w with stoneLengths := insertLength k w.stoneLengths } where
  l1 := g.l1
  l9 := g.l9
  n4 := by
    show (insertLength k w.stoneLengths).length ≤ 4
    rw [insert_len]
    omega
  s1 := fun x hx => by
    rcases (mem_insert k x _).mp hx with rfl | hx
    · exact hk
    · exact g.s1 x hx
  up := insert_up k _ g.up hn
theorem Good.erase {w : Wall} (g : Good w) (k : Nat) : Good { w with stoneLengths := w.stoneLengths.erase k } where
  l1 := g.l1
  l9 := g.l9
  n4 := Nat.le_trans (List.length_erase_le ..) g.n4
  s1 := fun x hx => g.s1 x (List.mem_of_mem_erase hx)
  up := List.Pairwise.sublist List.erase_sublist g.up
theorem Good.setL {w : Wall} (g : Good w) {n : Nat} (h1 : 1 ≤ n) (h9 : n ≤ 9) : Good { w with length := n } := ⟨h1, h9, g.n4, g.s1, g.up⟩
theorem Good.new {n : Nat} (h1 : 1 ≤ n) (h9 : n ≤ 9) : Good ⟨n, []⟩ := ⟨h1, h9, Nat.zero_le _, by simp, List.Pairwise.nil⟩
/-- what sorted hands over is the specification's own -/
theorem sorted_is {ns : List Int} {l : List Nat} {k : Nat} (hu : l.Pairwise (· < ·)) (hk : k ∉ l) (hp : ns.Perm (((l ++ [k]).map fun (n : Nat) => (n : Int)))) (hs : ns.Pairwise (· ≤ ·)) :
    ns = (insertLength k l).map fun (n : Nat) => (n : Int) := by
  have h1 : ((insertLength k l).map fun (n : Nat) => (n : Int)).Pairwise (· ≤ ·) := by
    rw [List.pairwise_map]
    exact (insert_up k l hu hk).imp fun h => Int.ofNat_le.mpr (Nat.le_of_lt h)
  have h2 : ns.Perm ((insertLength k l).map fun (n : Nat) => (n : Int)) := hp.trans ((insert_perm k l).map _).symm
  exact h2.eq_of_pairwise (fun a b _ _ h1 h2 => Int.le_antisymm h1 h2) hs h1
/-! ### whole numbers handed in for lengths -/
theorem mem_cast (l : List Nat) (z : Int) : z ∈ (l.map fun (n : Nat) => (n : Int)) ↔ 0 ≤ z ∧ z.toNat ∈ l := by
  rw [List.mem_map]
  constructor
  · rintro ⟨n, hn, rfl⟩
    exact ⟨by omega, by simpa using hn⟩
  · rintro ⟨h, hm⟩
    exact ⟨z.toNat, hm, by omega⟩
theorem nats_ints {r : List Int} (h : ∀ x ∈ r, 0 ≤ x) : ((SrCommon.intsToNats r).map fun (n : Nat) => (n : Int)) = r := by
  unfold SrCommon.intsToNats
  rw [List.map_map]
  conv => rhs; rw [← List.map_id r]
  exact List.map_congr_left fun x hx => by
    have := h x hx
    show ((x.toNat : Nat) : Int) = x
    omega
theorem sum_cast (l : List Nat) : ((l.map fun (n : Nat) => (n : Int)).sum) = ((l.sum : Nat) : Int) := by
  induction l with
  | nil => rfl
  | cons a r ih =>
    rw [List.map_cons, List.sum_cons, List.sum_cons, ih]
    omega
/-- the program's own look at a row -/
theorem isRow_is {w : Wall} (g : Good w) (r : List Int) : isRow w r = ((r.all fun x => decide (x ∈ (w.stoneLengths.map fun (n : Nat) => (n : Int)))) && decide (r.sum = (w.length : Int))) := by
  unfold isRow
  rw [Bool.eq_iff_iff]
  simp only [Bool.and_eq_true, List.all_eq_true, decide_eq_true_eq, List.contains_iff_mem]
  constructor
  · rintro ⟨a, b⟩
    have hb := (g.mem _).mp b
    have e := nats_ints (r := r) fun x hx => by have := a x hx; omega
    refine ⟨fun x hx => (mem_cast _ _).mpr ⟨by have := a x hx; omega, hb.1 _ (List.mem_map.mpr ⟨x, hx, rfl⟩)⟩, ?_⟩
    rw [← e, sum_cast, hb.2]
  · rintro ⟨a, b⟩
    have h0 : ∀ x ∈ r, 0 ≤ x := fun x hx => ((mem_cast _ _).mp (a x hx)).1
    have e := nats_ints h0
    refine ⟨fun x hx => ?_, (g.mem _).mpr ⟨fun k hk => ?_, ?_⟩⟩
    · have h := (mem_cast _ _).mp (a x hx)
      have := g.ge _ h.2
      omega
    · obtain ⟨x, hx, rfl⟩ := List.mem_map.mp hk
      exact ((mem_cast _ _).mp (a x hx)).2
    · have h2 := sum_cast (SrCommon.intsToNats r)
      rw [e, b] at h2
      omega
theorem isRow_ints {w : Wall} {r : List Int} (h : isRow w r = true) : ∀ x ∈ r, 0 ≤ x := fun x hx => by
  unfold isRow at h
  simp only [Bool.and_eq_true, List.all_eq_true, decide_eq_true_eq] at h
  have := h.1 x hx
  omega
theorem isRow_mem {w : Wall} {r : List Int} (h : isRow w r = true) : SrCommon.intsToNats r ∈ rows w := by
  unfold isRow at h
  simp only [Bool.and_eq_true, List.contains_iff_mem] at h
  exact h.2
/-! ### the calls -/
theorem whole_is (c : List (List Int)) : PySr112.whole c = c := by
  unfold PySr112.whole
  split <;> rfl
theorem whole_map (cs : List (List (List Int))) : cs.map PySr112.whole = cs := by
  rw [show PySr112.whole = id from funext whole_is]
  exact List.map_id cs
theorem answers_is (l : List Int) : PySr112.answers l = match PyFlat.calls PySr112.shape l.length l with
  | none => []
  | some cs => PyFlat.told (PyFlat.played Sr112Neutral.step Sr112Neutral.start cs) := by
  unfold PySr112.answers PySr112.calls
  cases PyFlat.calls PySr112.shape l.length l with
  | none => rfl
  | some cs =>
    show PyFlat.told (PyFlat.played _ _ (cs.map PySr112.whole)) = _
    rw [whole_map]
theorem told_nil : PyFlat.told [] = [] := rfl
theorem told_cons (a : List Int) (r : List (List Int)) : PyFlat.told (a :: r) = ((a.length : Int) :: a) ++ PyFlat.told r := by
  unfold PyFlat.told
  rw [List.flatMap_cons]
end Jw
namespace Jw
open Sr112
/-! ### numbers of walls -/
theorem sum_is (l : List Nat) : SrCommon.sum l = l.sum := by
  unfold SrCommon.sum
  have key : ∀ (l : List Nat) (a : Nat), l.foldl (· + ·) a = a + l.sum := by
    intro l
    induction l with
    | nil => intro a; simp
    | cons x r ih =>
      intro a
      rw [List.foldl_cons, ih, List.sum_cons]
      omega
  rw [key, Nat.zero_add]
/-- from the numbers of one height to those of the next -/
def nextC (R : List Row) (c : List Nat) : List Nat := R.map fun r => ((R.zip c).map fun y => if areCompatible r y.1 then y.2 else 0).sum
/-- the walls of height h + 1 by their end row -/
def cntW (R : List Row) : Nat → List Nat
  | 0 => R.map fun _ => 1
  | h + 1 => nextC R (cntW R h)
theorem cntW_len (R : List Row) : ∀ h, (cntW R h).length = R.length
  | 0 => by simp [cntW]
  | h + 1 => by simp [cntW, nextC]
theorem conts_is (w : Wall) : ∀ h, continuations w h = cntW (rows w) h
  | 0 => rfl
  | h + 1 => by
    show ((rows w).map fun r => SrCommon.sum (((rows w).zip (continuations w h)).map fun y => if areCompatible r y.1 then y.2 else 0)) = nextC (rows w) (cntW (rows w) h)
    rw [conts_is w h]
    unfold nextC
    exact List.map_congr_left fun r _ => sum_is _
theorem byTop_is (w : Wall) : ∀ h, wallsByTopRow w (h + 1) = cntW (rows w) h
  | 0 => rfl
  | h + 1 => by
    show ((rows w).map fun r => SrCommon.sum (((rows w).zip (wallsByTopRow w (h + 1))).map fun y => if areCompatible r y.1 then y.2 else 0)) = nextC (rows w) (cntW (rows w) h)
    rw [byTop_is w h]
    unfold nextC
    exact List.map_congr_left fun r _ => sum_is _
theorem wallCount_zero (w : Wall) : wallCount w 0 = 1 := rfl
theorem wallCount_succ (w : Wall) (h : Nat) : wallCount w (h + 1) = (cntW (rows w) h).sum := by
  unfold wallCount
  rw [if_neg (by omega), sum_is, byTop_is]
/-! ### numbers of stones -/
theorem tab_len (ks : List Nat) : ∀ m, (minStonesTable ks m).length = m + 1
  | 0 => rfl
  | m + 1 => by
    unfold minStonesTable
    simp only
    rw [List.length_append, tab_len ks m]
    rfl
/-- the smallest number of stones of a length -/
def minAt (ks : List Nat) (m : Nat) : Option Nat := (minStonesTable ks m).getD m none
theorem tab_at (ks : List Nat) : ∀ (n m : Nat), m ≤ n → (minStonesTable ks n)[m]? = some (minAt ks m)
  | 0, m, h => by
    have e : m = 0 := by omega
    subst e
    rfl
  | n + 1, m, h => by
    by_cases hm : m = n + 1
    · subst hm
      unfold minAt
      rw [List.getD_eq_getElem?_getD]
      have hl : n + 1 < (minStonesTable ks (n + 1)).length := by
        rw [tab_len]
        omega
      rw [List.getElem?_eq_getElem hl]
      rfl
    · have ih := tab_at ks n m (by omega)
      unfold minStonesTable
      simp only
      rw [List.getElem?_append_left (by rw [tab_len]; omega)]
      exact ih
theorem minAt_zero (ks : List Nat) : minAt ks 0 = some 0 := rfl
theorem minAt_succ (ks : List Nat) (m : Nat) : minAt ks (m + 1) = ks.foldl (fun best k => if 1 ≤ k ∧ k ≤ m + 1 then minOption best ((minAt ks (m + 1 - k)).map fun x => x + 1) else best) none := by
  have h1 : minAt ks (m + 1) = ks.foldl (fun best k => if 1 ≤ k ∧ k ≤ m + 1 then minOption best (((minStonesTable ks m).getD (m + 1 - k) none).map fun x => x + 1) else best) none := by
    unfold minAt
    show (minStonesTable ks m ++ [_]).getD (m + 1) none = _
    rw [List.getD_eq_getElem?_getD, List.getElem?_append_right (by rw [tab_len]; omega), tab_len, Nat.sub_self]
    rfl
  rw [h1]
  have key : ∀ (js : List Nat) (b : Option Nat), js.foldl (fun best k => if 1 ≤ k ∧ k ≤ m + 1 then minOption best (((minStonesTable ks m).getD (m + 1 - k) none).map fun x => x + 1) else best) b =
      js.foldl (fun best k => if 1 ≤ k ∧ k ≤ m + 1 then minOption best ((minAt ks (m + 1 - k)).map fun x => x + 1) else best) b := by
    intro js
    induction js with
    | nil => intro b; rfl
    | cons k r ih =>
      intro b
      rw [List.foldl_cons, List.foldl_cons, ih]
      congr 1
      by_cases hk : 1 ≤ k ∧ k ≤ m + 1
      · rw [if_pos hk, if_pos hk, List.getD_eq_getElem?_getD, tab_at ks m (m + 1 - k) (by omega)]
        rfl
      · rw [if_neg hk, if_neg hk]
  exact key ks none
theorem minStones_is (w : Wall) (m : Nat) : minStones w m = minAt w.stoneLengths m := rfl
/-! ### walls -/
theorem isWall_two (w : Wall) (r s : Row) (t : List Row) : isWall w (r :: s :: t) = ((rows w).contains r && (areCompatible r s && isWall w (s :: t))) := rfl
/-- any two that follow one another lie on each other -/
def stacked : List Row → Bool
  | [] => true
  | [_] => true
  | r :: s :: t => areCompatible r s && stacked (s :: t)
theorem isWall_is {w : Wall} : ∀ {l : List Row}, (∀ r ∈ l, r ∈ rows w) → isWall w l = stacked l
  | [], _ => rfl
  | [r], h => by
    show (rows w).contains r = true
    exact List.contains_iff_mem.mpr (h r (List.mem_cons_self ..))
  | r :: s :: t, h => by
    rw [isWall_two, isWall_is (l := s :: t) fun x hx => h x (List.mem_cons_of_mem _ hx), List.contains_iff_mem.mpr (h r (List.mem_cons_self ..)), Bool.true_and]
    rfl
end Jw
namespace Jw
open Sr112
/-! ### joints as the bits of one number -/
def bitsN (js : List Nat) : Nat := js.foldl (fun b j => b ||| 2 ^ j) 0
theorem bits_more (js : List Nat) (j : Nat) : bitsN (js ++ [j]) = bitsN js ||| 2 ^ j := by
  unfold bitsN
  rw [List.foldl_append]
  rfl
theorem bits_fold (js : List Nat) : ∀ (b i : Nat), (js.foldl (fun b j => b ||| 2 ^ j) b).testBit i = (b.testBit i || js.contains i) := by
  induction js with
  | nil => intro b i; simp
  | cons j r ih =>
    intro b i
    rw [List.foldl_cons, ih, Nat.testBit_or, Nat.testBit_two_pow, List.contains_cons, Bool.or_assoc]
    congr 2
    by_cases h : j = i
    · subst h
      simp
    · have h2 : ¬ i = j := fun e => h e.symm
      simp [h, h2]
theorem bits_test (js : List Nat) (i : Nat) : (bitsN js).testBit i = js.contains i := by
  unfold bitsN
  rw [bits_fold, Nat.zero_testBit, Bool.false_or]
theorem bits_zero (r s : Row) : (bitsN (joints r) &&& bitsN (joints s) = 0) ↔ areCompatible r s = true := by
  unfold areCompatible
  rw [List.all_eq_true]
  constructor
  · intro h x hx
    have e : (bitsN (joints r) &&& bitsN (joints s)).testBit x = false := by rw [h, Nat.zero_testBit]
    rw [Nat.testBit_and, bits_test, bits_test, List.contains_iff_mem.mpr hx, Bool.true_and] at e
    rw [e]
    rfl
  · intro h
    refine Nat.eq_of_testBit_eq fun i => ?_
    rw [Nat.testBit_and, bits_test, bits_test, Nat.zero_testBit]
    by_cases hi : i ∈ joints r
    · have := h i hi
      rw [Bool.not_eq_true'] at this
      rw [this, Bool.and_false]
    · have e : (joints r).contains i = false := by
        rw [← Bool.not_eq_true]
        exact fun z => hi (List.contains_iff_mem.mp z)
      rw [e, Bool.false_and]
/-! ### which rows may lie on which, by their numbers -/
def matC (R : List Row) : List (List Nat) := R.map fun r => (List.range R.length).filter fun i => areCompatible r (R.getD i [])
theorem matC_len (R : List Row) : (matC R).length = R.length := by simp [matC]
/-- the row's list by its number -/
def matR (R : List Row) (r : Row) : List Nat := (List.range R.length).filter fun i => areCompatible r (R.getD i [])
theorem matC_get {R : List Row} {i : Nat} (h : i < R.length) : (matC R)[i]? = some (matR R (R.getD i [])) := by
  unfold matC matR
  rw [List.getElem?_map, List.getElem?_eq_getElem h, List.getD_eq_getElem?_getD, List.getElem?_eq_getElem h]
  rfl
theorem matC_getD {R : List Row} {i : Nat} (h : i < R.length) : (matC R).getD i [] = matR R (R.getD i []) := by
  rw [List.getD_eq_getElem?_getD, matC_get h]
  rfl
theorem mem_matR {R : List Row} {r : Row} {i : Nat} : i ∈ matR R r ↔ i < R.length ∧ areCompatible r (R.getD i []) = true := by
  unfold matR
  rw [List.mem_filter, List.mem_range]
theorem matR_len (R : List Row) (r : Row) : (matR R r).length ≤ R.length := by
  unfold matR
  refine Nat.le_trans (List.length_filter_le _ _) ?_
  rw [List.length_range]
  exact Nat.le_refl _
/-! ### numbers of walls, by the numbers of rows -/
def upC (C : List (List Nat)) (c : List Nat) : List Nat := C.map fun b => (b.map fun i => c.getD i 0).sum
def cntC (C : List (List Nat)) : Nat → List Nat
  | 0 => List.replicate C.length 1
  | h + 1 => upC C (cntC C h)
theorem cntC_len (C : List (List Nat)) : ∀ h, (cntC C h).length = C.length
  | 0 => by simp [cntC]
  | h + 1 => by simp [cntC, upC]
def cwC (C : List (List Nat)) : Nat → Nat
  | 0 => 1
  | h + 1 => (cntC C h).sum
theorem zip_sum (p : Row → Bool) : ∀ (R : List Row) (c : List Nat), c.length = R.length →
    (((List.range R.length).filter fun i => p (R.getD i [])).map fun i => c.getD i 0).sum = ((R.zip c).map fun y => if p y.1 then y.2 else 0).sum
  | [], [], _ => rfl
  | r :: R, [], h => by simp at h
  | [], a :: c, h => by simp at h
  | r :: R, a :: c, h => by
    have ih := zip_sum p R c (by simpa using h)
    rw [List.length_cons, List.range_succ_eq_map, List.filter_cons, List.filter_map, List.zip_cons_cons, List.map_cons, List.sum_cons]
    have e : ((List.range R.length).filter ((fun i => p ((r :: R).getD i [])) ∘ Nat.succ)) = (List.range R.length).filter fun i => p (R.getD i []) := by
      congr 1
    rw [e]
    have e2 : ∀ l : List Nat, ((l.map Nat.succ).map fun i => (a :: c).getD i 0) = l.map fun i => c.getD i 0 := fun l => by
      rw [List.map_map]
      rfl
    show ((if p r = true then _ else _ : List Nat).map _).sum = _
    by_cases hp : p r = true
    · rw [if_pos hp, if_pos hp, List.map_cons, List.sum_cons, e2, ih]
      rfl
    · rw [if_neg hp, if_neg hp, e2, ih, Nat.zero_add]
theorem cnt_is (R : List Row) : ∀ h, cntC (matC R) h = cntW R h
  | 0 => by
    show List.replicate (matC R).length 1 = R.map fun _ => 1
    rw [matC_len, List.map_const']
  | h + 1 => by
    show upC (matC R) (cntC (matC R) h) = nextC R (cntW R h)
    rw [cnt_is R h]
    unfold upC nextC matC
    rw [List.map_map]
    exact List.map_congr_left fun r _ => zip_sum (areCompatible r) R (cntW R h) (cntW_len R h)
theorem cw_is (w : Wall) : ∀ h, cwC (matC (rows w)) h = wallCount w h
  | 0 => rfl
  | h + 1 => by
    rw [wallCount_succ]
    show (cntC (matC (rows w)) h).sum = _
    rw [cnt_is]
/-! ### the first wall -/
/-- row after row, the smallest that may lie on the one beneath -/
def wkC (C : List (List Nat)) (i : Nat) : Nat → Nat
  | 0 => i
  | k + 1 => (C.getD (wkC C i k) []).headD 0
def wuC (C : List (List Nat)) (h i : Nat) : List Nat := (List.range h).map (wkC C i)
def fwC (C : List (List Nat)) (h : Nat) : List Nat := match (List.range C.length).find? fun i => h == 1 || !(C.getD i []).isEmpty with
  | none => []
  | some i => wuC C h i
/-- a row that may bear one may bear one that bears one -/
def Goes (C : List (List Nat)) : Prop := ∀ (i j : Nat) (r : List Nat), C[i]? = some (j :: r) → ∃ k s, C[j]? = some (k :: s)
theorem sum_pos (l : List Nat) : 0 < l.sum ↔ ∃ x ∈ l, 0 < x := by
  induction l with
  | nil => simp
  | cons a r ih =>
    rw [List.sum_cons]
    constructor
    · intro h
      by_cases ha : 0 < a
      · exact ⟨a, List.mem_cons_self .., ha⟩
      · obtain ⟨x, hx, h0⟩ := ih.mp (by omega)
        exact ⟨x, List.mem_cons_of_mem _ hx, h0⟩
    · rintro ⟨x, hx, h0⟩
      rcases List.mem_cons.mp hx with rfl | hx
      · omega
      · have := ih.mpr ⟨x, hx, h0⟩
        omega
theorem mat_sym {R : List Row} {i j : Nat} (hi : i < R.length) (h : j ∈ (matC R).getD i []) : j < R.length ∧ i ∈ (matC R).getD j [] := by
  rw [matC_getD hi] at h
  obtain ⟨hj, hc⟩ := mem_matR.mp h
  refine ⟨hj, ?_⟩
  rw [matC_getD hj]
  exact mem_matR.mpr ⟨hi, by rw [compat_sym]; exact hc⟩
theorem mat_goes (R : List Row) : Goes (matC R) := by
  intro i j r h
  have hi : i < R.length := by
    have := (List.getElem?_eq_some_iff.mp h).1
    rw [matC_len] at this
    exact this
  have hd : (matC R).getD i [] = j :: r := by
    rw [List.getD_eq_getElem?_getD, h]
    rfl
  obtain ⟨hj, hm⟩ := mat_sym (R := R) (i := i) (j := j) hi (by rw [hd]; exact List.mem_cons_self ..)
  rw [matC_getD hj] at hm
  rw [matC_get hj]
  cases e : matR R (R.getD j []) with
  | nil =>
    rw [e] at hm
    cases hm
  | cons k s => exact ⟨k, s, rfl⟩
/-- where walls go on -/
theorem cnt_pos (R : List Row) : ∀ (h i : Nat), i < R.length → (0 < (cntC (matC R) h).getD i 0 ↔ (h = 0 ∨ (matC R).getD i [] ≠ []))
  | 0, i, hi => by
    show 0 < (List.replicate (matC R).length 1).getD i 0 ↔ _
    rw [List.getD_eq_getElem?_getD, List.getElem?_replicate, if_pos (by rw [matC_len]; exact hi)]
    simp
  | h + 1, i, hi => by
    have e : (cntC (matC R) (h + 1)).getD i 0 = (((matC R).getD i []).map fun j => (cntC (matC R) h).getD j 0).sum := by
      show (upC (matC R) (cntC (matC R) h)).getD i 0 = _
      unfold upC
      rw [matC_getD hi, List.getD_eq_getElem?_getD, List.getElem?_map, matC_get hi]
      rfl
    rw [e, sum_pos]
    constructor
    · rintro ⟨x, hx, _⟩
      refine .inr fun z => ?_
      rw [z] at hx
      cases hx
    · rintro (z | hne)
      · omega
      · cases hd : (matC R).getD i [] with
        | nil => exact absurd hd hne
        | cons j r =>
          obtain ⟨hj, hm⟩ := mat_sym (R := R) (i := i) (j := j) hi (by rw [hd]; exact List.mem_cons_self ..)
          refine ⟨_, List.mem_map.mpr ⟨j, List.mem_cons_self .., rfl⟩, (cnt_pos R h j hj).mpr (.inr fun z => ?_)⟩
          rw [z] at hm
          cases hm
theorem find_zip (f : Row → Nat → Bool) : ∀ (R : List Row) (n : Nat), (R.zipIdx n).find? (fun y => f y.1 y.2) = ((List.range R.length).find? fun i => f (R.getD i []) (n + i)).map fun i => (R.getD i [], n + i)
  | [], n => rfl
  | r :: R, n => by
    rw [List.zipIdx_cons, List.find?_cons, List.length_cons, List.range_succ_eq_map, List.find?_cons]
    show (match f r n with | true => some (r, n) | false => _) = Option.map _ (match f r n with | true => some 0 | false => _)
    cases f r n with
    | true => rfl
    | false =>
      rw [find_zip f R (n + 1), List.find?_map]
      have e : ((fun i => f ((r :: R).getD i []) (n + i)) ∘ Nat.succ) = fun i => f (R.getD i []) (n + 1 + i) := by
        funext i
        show f (R.getD i []) (n + (i + 1)) = _
        rw [show n + (i + 1) = n + 1 + i by omega]
      rw [e]
      cases (List.range R.length).find? fun i => f (R.getD i []) (n + 1 + i) with
      | none => rfl
      | some i =>
        show some (R.getD i [], n + 1 + i) = some (R.getD i [], n + (i + 1))
        rw [show n + (i + 1) = n + 1 + i by omega]
/-- the first wall by steps, with the numbers -/
theorem from_step (w : Wall) (h : Nat) (ok : Row → Bool) : firstWallFrom w (h + 1) ok =
    match (List.range (rows w).length).find? fun i => ok ((rows w).getD i []) && decide (0 < (cntC (matC (rows w)) h).getD i 0) with
    | none => []
    | some i => i :: firstWallFrom w h (areCompatible ((rows w).getD i [])) := by
  show (match (rows w).zipIdx.find? fun y => ok y.1 && decide (0 < (continuations w h).getD y.2 0) with | none => [] | some y => y.2 :: firstWallFrom w h (areCompatible y.1)) = _
  rw [find_zip (fun r i => ok r && decide (0 < (continuations w h).getD i 0)), conts_is, ← cnt_is]
  simp only [Nat.zero_add]
  cases (List.range (rows w).length).find? fun i => ok ((rows w).getD i []) && decide (0 < (cntC (matC (rows w)) h).getD i 0) with
  | none => rfl
  | some i => rfl
theorem find_head (l : List Nat) (p q : Nat → Bool) (h : ∀ x ∈ l, p x = true → q x = true) : (l.find? fun i => p i && q i) = (l.filter p).head? := by
  induction l with
  | nil => rfl
  | cons a r ih =>
    rw [List.find?_cons, List.filter_cons]
    have ih := ih fun x hx => h x (List.mem_cons_of_mem _ hx)
    cases hp : p a with
    | true =>
      rw [h a (List.mem_cons_self ..) hp]
      rfl
    | false =>
      show List.find? _ r = _
      rw [ih]
      rfl
/-- upon a row that may bear one -/
theorem from_upon (w : Wall) : ∀ (h i : Nat), i < (rows w).length → (h = 0 ∨ (matC (rows w)).getD i [] ≠ []) →
    firstWallFrom w h (areCompatible ((rows w).getD i [])) = (List.range h).map fun k => wkC (matC (rows w)) i (k + 1)
  | 0, i, hi, _ => rfl
  | h + 1, i, hi, hne => by
    have hne : (matC (rows w)).getD i [] ≠ [] := hne.resolve_left (by omega)
    cases hd : (matC (rows w)).getD i [] with
    | nil => exact absurd hd hne
    | cons j r =>
      obtain ⟨hj, hm⟩ := mat_sym (R := rows w) (i := i) (j := j) hi (by rw [hd]; exact List.mem_cons_self ..)
      rw [from_step, find_head _ _ _ fun x hx hp => ?_]
      · have e : ((List.range (rows w).length).filter fun x => areCompatible ((rows w).getD i []) ((rows w).getD x [])) = j :: r := by
          rw [← hd, matC_getD hi]
          rfl
        rw [e]
        show j :: firstWallFrom w h (areCompatible ((rows w).getD j [])) = _
        rw [from_upon w h j hj (.inr fun z => by rw [z] at hm; cases hm), List.range_succ_eq_map, List.map_cons, List.map_map]
        have e0 : wkC (matC (rows w)) i 1 = j := by
          show ((matC (rows w)).getD i []).headD 0 = j
          rw [hd]
          rfl
        have ek : ∀ k, wkC (matC (rows w)) j k = wkC (matC (rows w)) i (k + 1) := by
          intro k
          induction k with
          | zero => exact e0.symm
          | succ k ih =>
            show ((matC (rows w)).getD (wkC (matC (rows w)) j k) []).headD 0 = ((matC (rows w)).getD (wkC (matC (rows w)) i (k + 1)) []).headD 0
            rw [ih]
        rw [e0]
        refine congrArg (List.cons j) (List.map_congr_left fun k _ => ?_)
        exact ek (k + 1)
      · have hx' : x < (rows w).length := List.mem_range.mp hx
        refine decide_eq_true ((cnt_pos _ h x hx').mpr (.inr fun z => ?_))
        have hi' : i ∈ (matC (rows w)).getD x [] := by
          rw [matC_getD hx']
          exact mem_matR.mpr ⟨hi, by rw [compat_sym]; exact hp⟩
        rw [z] at hi'
        cases hi'
theorem ok_iff (R : List Row) (h i : Nat) (hi : i < R.length) : decide (0 < (cntC (matC R) h).getD i 0) = ((h + 1 == 1) || !((matC R).getD i []).isEmpty) := by
  rw [Bool.eq_iff_iff, decide_eq_true_eq, cnt_pos R h i hi]
  simp
theorem find_congr {α : Type} {p q : α → Bool} {l : List α} (h : ∀ x ∈ l, p x = q x) : l.find? p = l.find? q := by
  induction l with
  | nil => rfl
  | cons a r ih =>
    rw [List.find?_cons, List.find?_cons, h a (List.mem_cons_self ..), ih fun x hx => h x (List.mem_cons_of_mem _ hx)]
theorem first_is (w : Wall) (h : Nat) : firstWall w (h + 1) = fwC (matC (rows w)) (h + 1) := by
  unfold firstWall fwC
  rw [from_step, matC_len]
  have e : ((List.range (rows w).length).find? fun i => (fun _ => true) ((rows w).getD i []) && decide (0 < (cntC (matC (rows w)) h).getD i 0)) =
      (List.range (rows w).length).find? fun i => (h + 1 == 1) || !((matC (rows w)).getD i []).isEmpty := by
    refine find_congr fun x hx => ?_
    rw [ok_iff _ h x (List.mem_range.mp hx), Bool.true_and]
  rw [e]
  cases hf : (List.range (rows w).length).find? fun i => (h + 1 == 1) || !((matC (rows w)).getD i []).isEmpty with
  | none => rfl
  | some i =>
    have hi : i < (rows w).length := List.mem_range.mp (List.mem_of_find?_eq_some hf)
    have hp := List.find?_some hf
    show i :: firstWallFrom w h _ = (List.range (h + 1)).map (wkC (matC (rows w)) i)
    rw [from_upon w h i hi, List.range_succ_eq_map, List.map_cons, List.map_map]
    · rfl
    · simp at hp
      rcases hp with hp | hp
      · exact .inl hp
      · exact .inr hp
theorem none_iff (w : Wall) (h : Nat) : wallCount w (h + 1) = 0 ↔ fwC (matC (rows w)) (h + 1) = [] := by
  rw [← cw_is]
  show (cntC (matC (rows w)) h).sum = 0 ↔ _
  unfold fwC
  rw [matC_len]
  have e : ((List.range (rows w).length).find? fun i => (h + 1 == 1) || !((matC (rows w)).getD i []).isEmpty) = (List.range (rows w).length).find? fun i => decide (0 < (cntC (matC (rows w)) h).getD i 0) :=
    find_congr fun x hx => (ok_iff _ h x (List.mem_range.mp hx)).symm
  rw [e]
  cases hf : (List.range (rows w).length).find? fun i => decide (0 < (cntC (matC (rows w)) h).getD i 0) with
  | none =>
    refine ⟨fun _ => rfl, fun _ => ?_⟩
    by_cases h0 : 0 < (cntC (matC (rows w)) h).sum
    · obtain ⟨x, hx, hx0⟩ := (sum_pos _).mp h0
      obtain ⟨i, hi, rfl⟩ := List.getElem_of_mem hx
      have hi' : i < (rows w).length := by
        have := hi
        rw [cntC_len, matC_len] at this
        exact this
      have := List.find?_eq_none.mp hf i (List.mem_range.mpr hi')
      rw [List.getD_eq_getElem?_getD, List.getElem?_eq_getElem hi] at this
      simp at this
      omega
    · omega
  | some i =>
    have hi : i < (rows w).length := List.mem_range.mp (List.mem_of_find?_eq_some hf)
    have hp0 : decide (0 < (cntC (matC (rows w)) h).getD i 0) = true := List.find?_some (p := fun i => decide (0 < (cntC (matC (rows w)) h).getD i 0)) hf
    have hp := of_decide_eq_true hp0
    constructor
    · intro hs
      have h0 : 0 < (cntC (matC (rows w)) h).sum := by
        refine (sum_pos _).mpr ⟨(cntC (matC (rows w)) h).getD i 0, ?_, hp⟩
        have hl : i < (cntC (matC (rows w)) h).length := by rw [cntC_len, matC_len]; exact hi
        rw [List.getD_eq_getElem?_getD, List.getElem?_eq_getElem hl]
        exact List.getElem_mem hl
      omega
    · intro z
      have := congrArg List.length z
      simp [wuC] at this
end Jw
namespace Jw
open Sr112
/-! ### the fewest stones -/
/-- o is the smallest of l, none if there is none -/
def IsLeast (o : Option Nat) (l : List Nat) : Prop := match o with
  | none => l = []
  | some m => m ∈ l ∧ ∀ y ∈ l, m ≤ y
theorem IsLeast.none {o : Option Nat} (h : IsLeast o []) : o = none := by
  cases o with
  | none => rfl
  | some m => exact absurd h.1 (by simp)
theorem IsLeast.some {o : Option Nat} {l : List Nat} {m : Nat} (h : IsLeast o l) (h1 : m ∈ l) (h2 : ∀ y ∈ l, m ≤ y) : o = some m := by
  cases o with
  | none =>
    have e : l = [] := h
    rw [e] at h1
    cases h1
  | some n =>
    have a := h.2 m h1
    have b := h2 n h.1
    rw [Nat.le_antisymm a b]
theorem least_more {o : Option Nat} {l : List Nat} (h : IsLeast o l) (x : Nat) : IsLeast (minOption o (some x)) (l ++ [x]) := by
  cases o with
  | none =>
    have e : l = [] := h
    subst e
    exact ⟨by simp, by simp⟩
  | some m =>
    obtain ⟨h1, h2⟩ := h
    show min m x ∈ l ++ [x] ∧ ∀ y ∈ l ++ [x], min m x ≤ y
    refine ⟨?_, fun y hy => ?_⟩
    · by_cases hm : m ≤ x
      · rw [Nat.min_eq_left hm]
        exact List.mem_append_left _ h1
      · rw [Nat.min_eq_right (by omega)]
        exact List.mem_append_right _ (List.mem_singleton.mpr rfl)
    · rcases List.mem_append.mp hy with hy | hy
      · have := h2 y hy
        omega
      · have : y = x := List.mem_singleton.mp hy
        omega
/-- what a first stone leaves -/
def ctAt (ks : List Nat) (t k : Nat) : Option Nat := if k ≤ t then (minAt ks (t - k)).map fun x => x + 1 else none
theorem least_is {ks : List Nat} (h1 : ∀ k ∈ ks, 1 ≤ k) (t : Nat) (ht : 1 ≤ t) : IsLeast (minAt ks t) (ks.filterMap (ctAt ks t)) := by
  obtain ⟨m, rfl⟩ : ∃ m, t = m + 1 := ⟨t - 1, by omega⟩
  rw [minAt_succ]
  have key : ∀ (js : List Nat) (b : Option Nat) (l : List Nat), (∀ k ∈ js, 1 ≤ k) → IsLeast b l →
      IsLeast (js.foldl (fun best k => if 1 ≤ k ∧ k ≤ m + 1 then minOption best ((minAt ks (m + 1 - k)).map fun x => x + 1) else best) b) (l ++ js.filterMap (ctAt ks (m + 1))) := by
    intro js
    induction js with
    | nil =>
      intro b l _ h
      rw [List.filterMap_nil, List.append_nil]
      exact h
    | cons k r ih =>
      intro b l hj h
      rw [List.foldl_cons]
      have hk := hj k (List.mem_cons_self ..)
      have hr := fun j hj' => hj j (List.mem_cons_of_mem _ hj')
      by_cases hkm : k ≤ m + 1
      · rw [if_pos ⟨hk, hkm⟩]
        cases e : minAt ks (m + 1 - k) with
        | none =>
          have e2 : ctAt ks (m + 1) k = none := by
            unfold ctAt
            rw [if_pos hkm, e]
            rfl
          rw [List.filterMap_cons_none e2]
          refine ih _ l hr ?_
          cases b <;> exact h
        | some x =>
          have e2 : ctAt ks (m + 1) k = some (x + 1) := by
            unfold ctAt
            rw [if_pos hkm, e]
            rfl
          rw [List.filterMap_cons_some e2, List.append_cons]
          exact ih _ _ hr (least_more h (x + 1))
      · rw [if_neg fun z => hkm z.2]
        have e2 : ctAt ks (m + 1) k = none := by
          unfold ctAt
          rw [if_neg hkm]
        rw [List.filterMap_cons_none e2]
        exact ih _ l hr h
  have := key ks none [] h1 rfl
  rw [List.nil_append] at this
  exact this
/-! ### the lengths that are not possible -/
def downs : List Nat := (List.range 61).reverse
theorem downs_len : downs.length = 61 := rfl
theorem downs_at {i : Nat} (h : i < 61) : downs[i]? = some (60 - i) := by
  unfold downs
  rw [List.getElem?_reverse (by simpa using h), List.length_range, List.getElem?_range (by omega)]
theorem downs_filter (p : Nat → Bool) : ((List.range 61).filter p).reverse = downs.filter p := by
  unfold downs
  rw [List.filter_reverse]
theorem downs_filter_len (p : Nat → Bool) : ((List.range 61).filter p).length = (downs.filter p).length := by
  rw [← downs_filter, List.length_reverse]
/-! ### the loneliest row -/
abbrev lonStep : Option (Nat × Nat) → Nat × Nat → Option (Nat × Nat) := fun best y => match best with
  | none => some y
  | some z => if y.2 < z.2 then some y else some z
/-- the first of the smallest -/
def LonOk (L : List (Nat × Nat)) : Option (Nat × Nat) → Prop
  | none => L = []
  | some z => ∃ a b, L = a ++ z :: b ∧ (∀ y ∈ a, z.2 < y.2) ∧ ∀ y ∈ b, z.2 ≤ y.2
theorem lon_more {L : List (Nat × Nat)} {o : Option (Nat × Nat)} (h : LonOk L o) (y : Nat × Nat) : LonOk (L ++ [y]) (lonStep o y) := by
  cases o with
  | none =>
    have e : L = [] := h
    subst e
    exact ⟨[], [], rfl, by simp, by simp⟩
  | some z =>
    obtain ⟨a, b, rfl, h1, h2⟩ := h
    by_cases hy : y.2 < z.2
    · show LonOk _ (if y.2 < z.2 then some y else some z)
      rw [if_pos hy]
      refine ⟨a ++ z :: b, [], rfl, fun x hx => ?_, by simp⟩
      rcases List.mem_append.mp hx with hx | hx
      · exact Nat.lt_trans hy (h1 x hx)
      · rcases List.mem_cons.mp hx with rfl | hx
        · exact hy
        · exact Nat.lt_of_lt_of_le hy (h2 x hx)
    · show LonOk _ (if y.2 < z.2 then some y else some z)
      rw [if_neg hy]
      refine ⟨a, b ++ [y], by simp, h1, fun x hx => ?_⟩
      rcases List.mem_append.mp hx with hx | hx
      · exact h2 x hx
      · rw [List.mem_singleton.mp hx]
        omega
theorem lon_fold : ∀ (r L : List (Nat × Nat)) (o : Option (Nat × Nat)), LonOk L o → LonOk (L ++ r) (r.foldl lonStep o)
  | [], L, o, h => by
    rw [List.append_nil]
    exact h
  | y :: r, L, o, h => by
    rw [List.foldl_cons, List.append_cons]
    exact lon_fold r _ _ (lon_more h y)
theorem lon_at {L : List (Nat × Nat)} {o : Option (Nat × Nat)} (h : LonOk L o) {i : Nat} {y : Nat × Nat} (hi : L[i]? = some y) (h1 : ∀ (j : Nat) x, L[j]? = some x → y.2 ≤ x.2) (h2 : ∀ (j : Nat) x, j < i → L[j]? = some x → y.2 < x.2) : o = some y := by
  cases o with
  | none =>
    have e : L = [] := h
    subst e
    simp at hi
  | some z =>
    obtain ⟨a, b, rfl, ha, hb⟩ := h
    have hz : (a ++ z :: b)[a.length]? = some z := by simp
    rcases Nat.lt_trichotomy a.length i with hlt | heq | hgt
    · have q := h2 a.length z hlt hz
      rw [List.getElem?_append_right (by omega)] at hi
      have hm := List.mem_of_getElem? hi
      rcases List.mem_cons.mp hm with rfl | hm
      · omega
      · have := hb y hm
        omega
    · rw [← heq, hz] at hi
      exact hi
    · have q := h1 a.length z hz
      rw [List.getElem?_append_left hgt] at hi
      have := ha y (List.mem_of_getElem? hi)
      omega
theorem compat_rows_is (w : Wall) (r : Row) : compatibleRows w r = matR (rows w) r := by
  unfold compatibleRows matR
  have key : ∀ (R : List Row) (n : Nat), ((R.zipIdx n).filter fun y => areCompatible r y.1).map (fun y => y.2) = ((List.range R.length).filter fun i => areCompatible r (R.getD i [])).map fun i => n + i := by
    intro R
    induction R with
    | nil => intro n; rfl
    | cons s t ih =>
      intro n
      rw [List.zipIdx_cons, List.filter_cons, List.length_cons, List.range_succ_eq_map, List.filter_cons, List.filter_map]
      have e : (List.range t.length).filter ((fun i => areCompatible r ((s :: t).getD i [])) ∘ Nat.succ) = (List.range t.length).filter fun i => areCompatible r (t.getD i []) := by
        congr 1
      rw [e]
      have e3 : ∀ l : List Nat, (l.map Nat.succ).map (fun i => n + i) = l.map fun i => n + 1 + i := fun l => by
        rw [List.map_map]
        refine List.map_congr_left fun x _ => ?_
        show n + (x + 1) = n + 1 + x
        omega
      show List.map _ (if areCompatible r s = true then _ else _) = List.map _ (if areCompatible r s = true then _ else _)
      by_cases hp : areCompatible r s = true
      · rw [if_pos hp, if_pos hp, List.map_cons, List.map_cons, ih (n + 1), e3]
        rfl
      · rw [if_neg hp, if_neg hp, ih (n + 1), e3]
  rw [key (rows w) 0]
  conv => rhs; rw [← List.map_id ((List.range (rows w).length).filter fun i => areCompatible r ((rows w).getD i []))]
  refine List.map_congr_left fun x _ => ?_
  show 0 + x = x
  omega
theorem lon_list (w : Wall) : (((rows w).zipIdx.map fun y => (y.2, (compatibleRows w y.1).length))) = (matC (rows w)).zipIdx.map fun y => (y.2, y.1.length) := by
  have key : ∀ (R : List Row) (n : Nat), ((R.zipIdx n).map fun y => (y.2, (compatibleRows w y.1).length)) = ((R.map fun r => matR (rows w) r).zipIdx n).map fun y => (y.2, y.1.length) := by
    intro R
    induction R with
    | nil => intro n; rfl
    | cons s t ih =>
      intro n
      rw [List.map_cons, List.zipIdx_cons, List.zipIdx_cons, List.map_cons, List.map_cons, ih (n + 1), compat_rows_is]
  exact key (rows w) 0
theorem lon_is (w : Wall) {i : Nat} {b : List Nat} (hi : (matC (rows w))[i]? = some b) (h1 : ∀ (j : Nat) c, (matC (rows w))[j]? = some c → b.length ≤ c.length) (h2 : ∀ (j : Nat) c, j < i → (matC (rows w))[j]? = some c → b.length < c.length) :
    loneliestRow w = some (i, b.length) := by
  have h := lon_fold ((matC (rows w)).zipIdx.map fun y => (y.2, y.1.length)) [] none rfl
  rw [List.nil_append] at h
  have e : loneliestRow w = ((matC (rows w)).zipIdx.map fun y => (y.2, y.1.length)).foldl lonStep none := by
    rw [← lon_list]
    rfl
  rw [e]
  refine lon_at h (i := i) ?_ (fun j x hx => ?_) (fun j x hj hx => ?_)
  · rw [List.getElem?_map, List.getElem?_zipIdx, hi]
    show some (0 + i, b.length) = _
    rw [Nat.zero_add]
  · rw [List.getElem?_map, List.getElem?_zipIdx] at hx
    cases hc : (matC (rows w))[j]? with
    | none =>
      rw [hc] at hx
      cases hx
    | some c =>
      rw [hc] at hx
      cases hx
      exact h1 j c hc
  · rw [List.getElem?_map, List.getElem?_zipIdx] at hx
    cases hc : (matC (rows w))[j]? with
    | none =>
      rw [hc] at hx
      cases hx
    | some c =>
      rw [hc] at hx
      cases hx
      exact h2 j c hj hc
theorem lon_none {w : Wall} (h : (rows w).length = 0) : loneliestRow w = none := by
  have e : rows w = [] := List.length_eq_zero_iff.mp h
  unfold loneliestRow
  rw [e]
  rfl
/-! ### walls that are handed in -/
/-- each may lie on the one ahead of it -/
def Chain (C : List (List Nat)) (ns : List Nat) : Prop := ∀ (p a b : Nat), ns[p]? = some a → ns[p + 1]? = some b → b ∈ C.getD a []
theorem stacked_iff (R : List Row) : ∀ ns : List Nat, (∀ n ∈ ns, n < R.length) → (stacked (ns.map fun i => R.getD i []) = true ↔ Chain (matC R) ns)
  | [], _ => ⟨fun _ p a b h => by simp at h, fun _ => rfl⟩
  | [n], _ => ⟨fun _ p a b _ h => by simp at h, fun _ => rfl⟩
  | a :: b :: t, h => by
    have ih := stacked_iff R (b :: t) fun x hx => h x (List.mem_cons_of_mem _ hx)
    have ha := h a (List.mem_cons_self ..)
    have hb := h b (List.mem_cons_of_mem _ (List.mem_cons_self ..))
    show (areCompatible (R.getD a []) (R.getD b []) && stacked ((b :: t).map fun i => R.getD i [])) = true ↔ _
    rw [Bool.and_eq_true, ih]
    constructor
    · rintro ⟨h1, h2⟩ p x y hx hy
      cases p with
      | zero =>
        cases hx
        cases hy
        rw [matC_getD ha]
        exact mem_matR.mpr ⟨hb, h1⟩
      | succ p => exact h2 p x y hx hy
    · intro hc
      refine ⟨?_, fun p x y hx hy => hc (p + 1) x y hx hy⟩
      have := hc 0 a b rfl rfl
      rw [matC_getD ha] at this
      exact (mem_matR.mp this).2
theorem rows_some {w : Wall} {ns : List Nat} (h : ∀ n ∈ ns, n < (rows w).length) : (ns.map fun (n : Nat) => (n : Int)).map (rowAt w) = ns.map fun i => some ((rows w).getD i []) := by
  rw [List.map_map]
  refine List.map_congr_left fun n hn => ?_
  show rowAt w (n : Int) = _
  unfold rowAt
  rw [if_neg (by omega), Int.toNat_natCast, List.getElem?_eq_getElem (h n hn), List.getD_eq_getElem?_getD, List.getElem?_eq_getElem (h n hn)]
  rfl
theorem wall_asked {w : Wall} {ns : List Nat} (h : ∀ n ∈ ns, n < (rows w).length) :
    ((ns.map fun (n : Nat) => (n : Int)).map (rowAt w)).any (fun x => x.isNone) = false ∧ isWall w (((ns.map fun (n : Nat) => (n : Int)).map (rowAt w)).filterMap id) = stacked (ns.map fun i => (rows w).getD i []) := by
  rw [rows_some h]
  constructor
  · rw [List.any_map, List.any_eq_false]
    intro x _
    simp
  · have e : (ns.map fun i => some ((rows w).getD i [])).filterMap id = ns.map fun i => (rows w).getD i [] := by
      rw [List.filterMap_map, ← List.filterMap_eq_map]
      rfl
    rw [e]
    refine isWall_is fun r hr => ?_
    obtain ⟨n, hn, rfl⟩ := List.mem_map.mp hr
    rw [List.getD_eq_getElem?_getD, List.getElem?_eq_getElem (h n hn)]
    exact List.getElem_mem _
theorem wall_not_asked {w : Wall} {zs : List Int} {z : Int} (hz : z ∈ zs) (h : rowAt w z = none) : (zs.map (rowAt w)).any (fun x => x.isNone) = true := by
  rw [List.any_eq_true]
  exact ⟨none, List.mem_map.mpr ⟨z, hz, h⟩, rfl⟩
theorem nats_of {zs : List Int} {n : Nat} (h : ∀ z ∈ zs, 0 ≤ z ∧ z < (n : Int)) : ∃ ns : List Nat, zs = ns.map (fun (k : Nat) => (k : Int)) ∧ ∀ k ∈ ns, k < n := by
  refine ⟨SrCommon.intsToNats zs, (nats_ints fun x hx => (h x hx).1).symm, fun k hk => ?_⟩
  obtain ⟨z, hz, rfl⟩ := List.mem_map.mp hk
  have := h z hz
  omega
end Jw
namespace Jw
open PySem PySem.Spec PyProof.Rows L2
/-! ### min(xs, default=d) -/
section
variable {prog : Program} {w : World} {A : Around} {R : Result → Shared → Prop} {it bx : Addr} {fp wr : List Addr} {n : Nat} {F : Nat → Value → Prop} {St : Nat → Heap → Prop} {bt : Nat → Nat → Bool} {dv : Value}
theorem minD_name : (toString "min" ++ toString ".loop" : String) = "min.loop" := by decide
/-- the loop's state: the iterator, no key, the list of the best so far, the default -/
abbrev minD_at (it bx : Addr) (dv : Value) : Args := ⟨[.ref it, .none, .ref bx], [("default", dv)]⟩
/-- nothing was there -/
theorem minD_empty (G : Walks prog w A.in1 it fp wr 0 F St) (hb : bx ∉ wr) {s : Shared} {c : Nat} (st : St 0 s.heap) (ho : s.heap.get? bx = some (seqObj "list" #[] c))
    (out : ∀ g tk, (∀ b o, b ∉ wr → s.heap.get? b = some o → g.get? b = some o) → R (.ok (.ret dv)) { s with heap := g, toks := tk }) : codeAny (model prog w) A (.builtin "min.loop" (minD_at it bx dv)) R s := by
  refine codeAny_builtin PySem.F.entry_min_loop (by
    rw [Around.under_plainId PySem.F.plain_min_loop _]
    show wpAny _ A.in1 (seqItems? (.ref bx) >>= _) _ _ s
    refine wpAny_bind (wpAny_seqItems ho rfl (by
      show wpAny _ A.in1 (tryCatch (pyNext (.ref it)) _ >>= _) _ _ s
      refine wpAny_bind (wpAny_tryCatch (G.done s _ _ st fun g tk kp => ?_))
      show wpAny _ A.in1 (rule _ >>= _) _ _ _
      exact wpAny_bind (wpAny_rule (wpAny_pure (out g tk kp))))))
/-- some were there: what the rest does to the best -/
theorem minD_rest (G : Walks prog w A.in1 it fp wr n F St) (cmp : CmpOf prog w A.in1 .Lt F bt) (hb : bx ∉ fp) : ∀ (left i : Nat) (s : Shared) (u : Value) (c : Nat), i + 1 + left = n → St (i + 1) s.heap → F (argBest bt i) u → s.heap.get? bx = some (seqObj "list" #[u, u] c) →
    (∀ v g tk, F (argBest bt (n - 1)) v → (∀ b o, b ∉ wr → b ≠ bx → s.heap.get? b = some o → g.get? b = some o) → R (.ok (.ret v)) { s with heap := g, toks := tk }) → codeAny (model prog w) A (.builtin "min.loop" (minD_at it bx dv)) R s := by
  have hw : bx ∉ wr := fun z => hb (G.sub _ z)
  intro left
  induction left with
  | zero =>
    intro i s u c hn st hu ho out
    obtain rfl : i + 1 = n := hn
    refine codeAny_builtin PySem.F.entry_min_loop (by
      rw [Around.under_plainId PySem.F.plain_min_loop _]
      show wpAny _ A.in1 (seqItems? (.ref bx) >>= _) _ _ s
      refine wpAny_bind (wpAny_seqItems ho rfl (by
        show wpAny _ A.in1 (tryCatch (pyNext (.ref it)) _ >>= _) _ _ s
        refine wpAny_bind (wpAny_tryCatch (G.done s _ _ st fun g tk kp => ?_))
        show wpAny _ A.in1 (updateSeq bx (fun _ => #[]) >>= _) _ _ _
        refine wpAny_bind (wpAny_updateSeq (kp bx _ hw ho) rfl (wpAny_bind (wpAny_letGo (wpAny_pure (out u _ tk hu fun b o h1 h2 e => ?_)))))
        exact (Heap.get?_update_other _ _ (Ne.symm h2)).trans (kp b o h1 e))))
  | succ left ih =>
    intro i s u c hn st hu ho out
    refine codeAny_builtin PySem.F.entry_min_loop (by
      rw [Around.under_plainId PySem.F.plain_min_loop _]
      show wpAny _ A.in1 (seqItems? (.ref bx) >>= _) _ _ s
      refine wpAny_bind (wpAny_seqItems ho rfl (by
        show wpAny _ A.in1 (tryCatch (pyNext (.ref it)) _ >>= _) _ _ s
        refine wpAny_bind (wpAny_tryCatch (G.item (i + 1) s _ _ (by omega) st fun v g tk hv st' kp => ?_))
        have ho' := kp bx _ hw ho
        show wpAny _ A.in1 (tryCatch (holding [v, v] (richCompare .Lt v u >>= _)) _ >>= _) _ _ _
        refine wpAny_bind (wpAny_tryCatch (wpAny_holding (wpAny_bind (cmp (i + 1) (argBest bt i) v u _ _ _ hv hu (wpAny_bind (wpAny_holding (wpAny_truthy_bool (wpAny_bind (wpAny_letGo (wpAny_pure ?_))))))))))
        cases e : bt (i + 1) (argBest bt i) with
        | true =>
          simp only [if_true]
          refine wpAny_bind (wpAny_updateSeq ho' rfl (wpAny_bind (wpAny_letGo ?_)))
          rw [minD_name]
          refine wpAny_pure ⟨plainId_quiet PySem.F.plain_min_loop _, ih (i + 1) _ v _ (by omega) (G.frame _ _ _ st' fun b hf o q => ?_) (by simp only [argBest, e, if_true]; exact hv) (Heap.get?_update_self _ ho' rfl) fun v' g' tk' hv' kp' => ?_⟩
          · exact (Heap.get?_update_other _ _ (fun z : bx = b => hb (by rw [z]; exact hf))).trans q
          · exact out v' g' tk' hv' fun b o h1 h2 q => kp' b o h1 h2 ((Heap.get?_update_other _ _ (Ne.symm h2)).trans (kp b o h1 q))
        | false =>
          simp only [Bool.false_eq_true, if_false]
          refine wpAny_bind (wpAny_letGo ?_)
          rw [minD_name]
          refine wpAny_pure ⟨plainId_quiet PySem.F.plain_min_loop _, ih (i + 1) _ u c (by omega) st' (by simp only [argBest, e, Bool.false_eq_true, if_false]; exact hu) ho' fun v' g' tk' hv' kp' => ?_⟩
          exact out v' g' tk' hv' fun b o h1 h2 q => kp' b o h1 h2 (kp b o h1 q))))
theorem minD_first (G : Walks prog w A.in1 it fp wr n F St) (cmp : CmpOf prog w A.in1 .Lt F bt) (hb : bx ∉ fp) (h0 : 0 < n) {s : Shared} {c : Nat} (st : St 0 s.heap) (ho : s.heap.get? bx = some (seqObj "list" #[] c))
    (out : ∀ v g tk, F (argBest bt (n - 1)) v → (∀ b o, b ∉ wr → b ≠ bx → s.heap.get? b = some o → g.get? b = some o) → R (.ok (.ret v)) { s with heap := g, toks := tk }) : codeAny (model prog w) A (.builtin "min.loop" (minD_at it bx dv)) R s := by
  have hw : bx ∉ wr := fun z => hb (G.sub _ z)
  refine codeAny_builtin PySem.F.entry_min_loop (by
    rw [Around.under_plainId PySem.F.plain_min_loop _]
    show wpAny _ A.in1 (seqItems? (.ref bx) >>= _) _ _ s
    refine wpAny_bind (wpAny_seqItems ho rfl (by
      show wpAny _ A.in1 (tryCatch (pyNext (.ref it)) _ >>= _) _ _ s
      refine wpAny_bind (wpAny_tryCatch (G.item 0 s _ _ h0 st fun v g tk hv st' kp => ?_))
      have ho' := kp bx _ hw ho
      show wpAny _ A.in1 (updateSeq bx (fun _ => #[v, v]) >>= _) _ _ _
      refine wpAny_bind (wpAny_updateSeq ho' rfl ?_)
      rw [minD_name]
      refine wpAny_pure ⟨plainId_quiet PySem.F.plain_min_loop _, minD_rest G cmp hb (n - 1) 0 _ v _ (by omega) (G.frame _ _ _ st' fun b hf o q => ?_) hv (Heap.get?_update_self _ ho' rfl) fun v' g' tk' hv' kp' => ?_⟩
      · exact (Heap.get?_update_other _ _ (fun z : bx = b => hb (by rw [z]; exact hf))).trans q
      · exact out v' g' tk' hv' fun b o h1 h2 q => kp' b o h1 h2 ((Heap.get?_update_other _ _ (Ne.symm h2)).trans (kp b o h1 q)))))
end
section
variable {prog : Program} {w : World} {A : Around} {E : Value → Shared → Prop} {s : Shared} {dv : Value}
theorem minD_args (a d : Value) : argsOk "min" ⟨[a], [("default", d)]⟩ := by unfold argsOk; kernel_rfl
/-- the call, over what walks -/
theorem minD_call {x : Value} {Q : Value → Shared → Prop}
    (h : wpAny (model prog w) A.in1 (pyIter x) (fun iv s2 => ∃ it fp wr n F St bt, iv = .ref it ∧ Walks prog w A.in1 it fp wr n F St ∧ St 0 s2.heap ∧ (∀ b ∈ fp, b < s2.heap.objs.size) ∧ CmpOf prog w A.in1 .Lt F bt ∧
      (n = 0 → ∀ g tk, (∀ b o, b ∉ wr → s2.heap.get? b = some o → g.get? b = some o) → Q dv { s2 with heap := g, toks := tk }) ∧
      (0 < n → ∀ v g tk, F (argBest bt (n - 1)) v → (∀ b o, b ∉ wr → s2.heap.get? b = some o → g.get? b = some o) → Q v { s2 with heap := g, toks := tk })) E s) :
    wpAny (model prog w) A (call (.builtin "min") [x] [("default", dv)]) Q E s := by
  refine wpAny_call (codeAny_call_builtin PySem.F.plain_min PySem.F.entry_min ?_)
  have main : wpAny (model prog w) A.in1 (Builtin.«min» ⟨[x], [("default", dv)]⟩) (fun fin s' => match fin with
      | .done f => (match (Except.ok f : Result) with | .ok (.ret v) => Q v s' | .ok _ => False | .error e => E e s')
      | .again c' => c'.quiet = true ∧ codeAny (model prog w) A c' (fun r s' => match r with | .ok (.ret v) => Q v s' | .ok _ => False | .error e => E e s') s') E s := by
    show wpAny _ A.in1 (Builtin.Builtins.bindParams "min" ["key", "default"] 0 ⟨[], [("default", dv)]⟩ >>= _) _ _ s
    refine wpAny_bind (wpAny_of_eq (show Builtin.Builtins.bindParams "min" ["key", "default"] 0 ⟨[], [("default", dv)]⟩ = pure [none, some dv] from rfl) (wpAny_bind (wpAny_pure (wpAny_bind (wpAny_mono h (fun iv s2 h2 => ?_) fun _ _ e => e)))))
    obtain ⟨it, fp, wr, n, F, St, bt, rfl, G, st, hfp, cmp, q0, q1⟩ := h2
    refine wpAny_bind (wpAny_newObj_type ?_)
    have hb : s2.heap.objs.size ∉ fp := fun z => absurd (hfp _ z) (Nat.lt_irrefl _)
    rw [minD_name]
    have st1 := G.frame _ _ (s2.heap.push (seqObj "list" #[] 0)) st fun b _ o e => Heap.get?_push_of_some _ e
    have up : ∀ b o, s2.heap.get? b = some o → b ≠ s2.heap.objs.size ∧ (s2.heap.push (seqObj "list" #[] 0)).get? b = some o := fun b o e => ⟨Nat.ne_of_lt (Heap.lt_size e), Heap.get?_push_of_some _ e⟩
    rcases Nat.eq_zero_or_pos n with z | z
    · subst z
      exact wpAny_pure ⟨plainId_quiet PySem.F.plain_min_loop _, minD_empty G (fun z => hb (G.sub _ z)) st1 (Heap.get?_push_size _ rfl) fun g tk kp => q0 rfl g tk fun b o h1 e => kp b o h1 (up b o e).2⟩
    · exact wpAny_pure ⟨plainId_quiet PySem.F.plain_min_loop _, minD_first G cmp hb z st1 (Heap.get?_push_size _ rfl) fun v g tk hv kp => q1 z v g tk hv fun b o h1 e => kp b o h1 (up b o e).1 (up b o e).2⟩
  simp only [checkBuiltinCall, PySem.F.kind_min]
  cases hsig : Manifest.signature? "min" with
  | none => exact wpAny_pure main
  | some sig =>
    have ha := minD_args x dv
    simp only [argsOk, hsig] at ha
    have h2 : Bind.checkArgs "min" sig ⟨[x], [("default", dv)]⟩ = pure () := ha
    show wpAny _ A.in1 (Bind.checkArgs "min" sig ⟨[x], [("default", dv)]⟩) _ _ s
    rw [h2]
    exact wpAny_pure main
theorem minD_list {l : Addr} {its : List Value} {ns : List Int} {Q : Value → Shared → Prop} (hh : A.handled = none) (hl : s.heap.IsList l its.toArray) (hi : IntsAre its ns)
    (h0 : ns = [] → ∀ g tk, (∀ b o, s.heap.get? b = some o → g.get? b = some o) → Q dv { s with heap := g, toks := tk })
    (h1 : ∀ g tk m t, (∀ b o, s.heap.get? b = some o → g.get? b = some o) → m ∈ ns → (∀ y ∈ ns, m ≤ y) → Q (.int m t) { s with heap := g, toks := tk }) : wpAny (model prog w) A (call (.builtin "min") [.ref l] [("default", dv)]) Q E s := by
  obtain ⟨xs, e⟩ := hi.allInts.items
  have hn : numsOf (intItems xs).toList = ns := by rw [← e]; exact hi.numsOf
  rw [nums_intItems] at hn
  subst hn
  rw [e] at hl
  refine minD_call (iter_intList hl fun s2 e2 st hfp hlI => ?_)
  subst e2
  refine ⟨_, _, _, _, _, _, _, rfl, Walks.list (A := A.in1) hh _ l hlI (intItems xs), st, hfp, CmpOf.ints_lt (numAt xs) (fun _ _ => intItems_at), fun z g tk kp => ?_, fun z v g tk hv kp => ?_⟩
  · refine h0 ?_ g tk (old_kept kp)
    have : xs.size = 0 := by simpa [intItems] using z
    rw [Array.size_eq_zero_iff.mp this]
    rfl
  · have hz : 0 < xs.size := by simpa [intItems] using z
    have hv' : (intItems xs)[argBest (fun i j => decide (numAt xs i < numAt xs j)) (xs.size - 1)]? = some v := by simpa [intItems] using hv
    obtain ⟨t, rfl⟩ := intItems_at hv'
    obtain ⟨a1, a2⟩ := argBest_lt (numAt xs) (xs.size - 1)
    refine h1 g tk _ t (old_kept kp) ?_ fun y hy => ?_
    · rw [numAt_eq]
      exact PySem.getD_mem (by rw [List.length_map, Array.length_toList]; omega)
    · obtain ⟨j, hj, rfl⟩ := mem_getD hy
      rw [List.length_map, Array.length_toList] at hj
      rw [← numAt_eq]
      exact a2 j (by omega)
end
/-- min(xs, default=d) of a list of whole numbers -/
def rMinD (K : PySem.W.Frag) : List V → List V → Hp → VK → Prop := fun vs zs H Q => ∃ (a : Addr) (ns : List Int) (d : V), vs = [V.ref a] ∧ zs = [d] ∧ SqL K H a (ns.map V.int) ∧ (ns = [] → Q d H) ∧ ∀ m, m ∈ ns → (∀ y ∈ ns, m ≤ y) → Q (.int m) H
theorem cr_minD {X : Cx} (hc : X.calm = true) : CallRK X (.builtin "min") ["default"] (rMinD X.K) := by
  intro pins s σ H vs zs us ws Q I r r2 h
  obtain ⟨a, ns, d, rfl, rfl, hs, q0, q1⟩ := h
  obtain ⟨its, rv, hl, _⟩ := I.list hs
  rw [Vals.ref1 r]
  cases r2 with
  | cons rd rn =>
    cases rn
    exact minD_list (I.ok.hd hc) hl.isList rv.ints (fun z g tk kp => ⟨d, H, I.kept kp, rd, q0 z⟩) fun g tk m t kp h1 h2 => ⟨.int m, H, I.kept kp, ⟨_, rfl⟩, q1 m h1 h2⟩
end Jw
namespace Jw
open PySem PySem.Spec PyProof.Rows L2
/-! ### heaps -/
theorem same_new {H : Hp} {p : Addr} {o : HO} (h : H p = none) : Same H (upd H p o) := fun b x e => by
  rw [upd_ne (ne_of_none e h)]
  exact e
theorem upd_swap {H : Hp} {p q : Addr} {x y : HO} (h : p ≠ q) : upd (upd H p x) q y = upd (upd H q y) p x := by
  funext b
  unfold upd
  by_cases h1 : b = p
  · by_cases h2 : b = q
    · exact absurd (h1.symm.trans h2) h
    · rw [if_pos h1, if_neg h2, if_pos h1]
  · rw [if_neg h1, if_neg h1]
/-- new beside what is being built at o -/
theorem upd_free {H : Hp} {o p : Addr} {x : HO} (h : upd H o x p = none) : p ≠ o ∧ H p = none := by
  by_cases e : p = o
  · subst e
    rw [upd_same] at h
    cases h
  · rw [upd_ne e] at h
    exact ⟨e, h⟩
theorem sq_same {K : PySem.W.Frag} {H : Hp} {o : Addr} {xs : List V} : SqL K (upd H o (.lst xs)) o xs := .inl (.inl upd_same)
theorem sq_of {K : PySem.W.Frag} {H : Hp} {o : Addr} {xs : List V} (h : H o = some (.lst xs)) : SqL K H o xs := .inl (.inl h)
/-! ### what lies in the heap -/
def ni (l : List Nat) : List Int := l.map fun (n : Nat) => (n : Int)
def nv (l : List Nat) : List V := (ni l).map V.int
theorem nv_nil : nv [] = [] := rfl
theorem nv_cons (k : Nat) (r : List Nat) : nv (k :: r) = V.int (k : Int) :: nv r := rfl
theorem nv_app (a b : List Nat) : nv (a ++ b) = nv a ++ nv b := by
  unfold nv ni
  rw [List.map_append, List.map_append]
theorem nv_len (a : List Nat) : (nv a).length = a.length := by
  unfold nv ni
  rw [List.length_map, List.length_map]
theorem nv_get {l : List Nat} {i : Nat} {x : V} (h : (nv l)[i]? = some x) : ∃ n : Nat, l[i]? = some n ∧ x = V.int (n : Int) := by
  unfold nv ni at h
  rw [List.getElem?_map, List.getElem?_map] at h
  cases e : l[i]? with
  | none =>
    rw [e] at h
    cases h
  | some n =>
    rw [e] at h
    exact ⟨n, rfl, (Option.some.inj h).symm⟩
theorem nv_at {l : List Nat} {i : Nat} {n : Nat} (h : l[i]? = some n) : (nv l)[i]? = some (V.int (n : Int)) := by
  unfold nv ni
  rw [List.getElem?_map, List.getElem?_map, h]
  rfl
theorem nv_dropLast (l : List Nat) : (nv l).dropLast = nv l.dropLast := by
  unfold nv ni
  rw [← List.map_dropLast, ← List.map_dropLast]
theorem take_more {α : Type} : ∀ {l : List α} {i : Nat} {x : α}, l[i]? = some x → l.take (i + 1) = l.take i ++ [x]
  | [], i, x, h => by simp at h
  | a :: l, 0, x, h => by
    have e : a = x := Option.some.inj h
    subst e
    rfl
  | a :: l, i + 1, x, h => by
    have ih := take_more (l := l) (i := i) (x := x) h
    show a :: l.take (i + 1) = a :: l.take i ++ [x]
    rw [ih]
    rfl
theorem lt_of_get {α : Type} {l : List α} {i : Nat} {x : α} (h : l[i]? = some x) : i < l.length := by
  obtain ⟨h1, _⟩ := List.getElem?_eq_some_iff.mp h
  exact h1
/-- xs[:-1] -/
theorem cut_last (xs : List V) : cutV xs none (some (-1)) = xs.dropLast := by
  have e : HT.sIx xs.length xs.length (some (-1)) = xs.length - 1 := by
    show (if (-1 : Int) < 0 then ((-1 : Int) + (xs.length : Int)).toNat else min (-1 : Int).toNat xs.length) = xs.length - 1
    rw [if_pos (by decide)]
    omega
  unfold cutV
  rw [HT.sIx_none, e, List.drop_zero, Nat.sub_zero, List.dropLast_eq_take]
/-! ### defs and their promises -/
/-- a def as it stands behind the top, and how its arguments bind -/
structure FB (K : PySem.W.Frag) (x qual : Str) (st : Stmt) (f : Addr) (ps : List Str) : Prop where
  ex : ∃ fd, Fun K x qual st f fd ∧ Binds K fd ps []
/-- a def keeps its promise -/
structure Df (P : Program) (w : World) (K : PySem.W.Frag) (mg : Str → Option Value) (base : Heap) (k : Nat) (f : Addr) (ps : List Str) (sp : Sp) : Prop where
  ex : ∃ fd, FnOk P w K mg base CX0 k f fd ps sp ∧ Binds K fd ps []
  kp : PySem.W.keepIn K (.ref f) = true
section
variable {P : Program} {w : World} {K : PySem.W.Frag} {mg : Str → Option Value} {base : Heap}
theorem Df.of {x qual : Str} {st : Stmt} {f : Addr} {N ps : List Str} {k : Nat} {sp : Sp} (F : FB K x qual st f ps) (S : FnScope N ps (defScope st)) (len : ∀ vs H Q E, sp vs H Q E → vs.length = ps.length)
    (hbody : ∀ (cdv : Value) (A : Around) (outer : List Env) (s : Shared) (H : Hp) (vs : List V) (Q : VK) (E : XK), Room k (A.deeper (envOfC qual (defScope st) s.heap.objs.size f cdv)) → sp vs H Q E →
      ∃ t, PSs (cxOf CX0 P w K mg base N qual (defScope st) f cdv A outer s H E).nox (defBody st) t ∧ t { nx := fun _ H' => Q .non H', rt := Q } (start N vs) H) : Df P w K mg base (k + 1) f ps sp := by
  obtain ⟨fd, F, b⟩ := F.ex
  exact ⟨⟨fd, F.ok S len hbody, b⟩, F.kp⟩
theorem Df.imp {k : Nat} {f : Addr} {ps : List Str} {sp sp' : Sp} (D : Df P w K mg base k f ps sp) (h : ∀ vs H Q E, sp' vs H Q E → sp vs H Q E) : Df P w K mg base k f ps sp' := by
  obtain ⟨⟨fd, F, b⟩, kp⟩ := D
  exact ⟨⟨fd, F.imp h, b⟩, kp⟩
end
def tCal (sp : Sp) (t : TA) : TE := fun σ H Q => t σ H fun vs H1 => sp vs H1 Q E0
def tMth (C : Addr) (m : Str) (sp : Sp) (ta : TE) (t : TA) : TE := fun σ H Q => ta σ H fun x H1 => ∃ a dx fs, x = .ref a ∧ H1 a = some (.ins C dx fs) ∧ fs.lookup m = none ∧ t σ H1 fun vs H2 => sp (x :: vs) H2 Q E0
def tMak (C : Addr) (sp : Sp) (t : TA) : TE := fun σ H Q => t σ H fun vs H1 => ∀ x dx, H1 x = none → H1 dx = none → dx ≠ x → sp (.ref x :: vs) (upd (upd H1 dx (.own x)) x (.ins C dx [])) (fun v H2 => v = .non ∧ Q (.ref x) H2) E0
section
variable {X : Cx} {k j : Nat} {f C : Addr} {ps : List Str} {sp : Sp} {x m : Str} {p apos pos : Pos} {e o : Expr} {es : List Expr} {t : TA} {ta : TE}
theorem pe_cal (D : Df X.prog X.w X.K X.mg X.base k f ps sp) (hr : Room k X.A) (hg : Gl X x) (hm : X.mg x = some (.ref f)) (ha : PA X (e :: es) t)
    (hdb : (x == ("__debug__" : Str)) = false := by decide) (he : starEach (e :: es) X.env = (false, eval e X.env) :: starEach es X.env := by rfl) (hpl : (backTo pos (starEach es X.env)).any (·.1) = false := by rfl) :
    PE X (.Call (.Name x p) (e :: es) [] pos) (tCal sp t) := by
  obtain ⟨⟨fd, F, b⟩, kp⟩ := D
  have h := pe_call (p := p) F hr hg hm kp b .nil pass0 ha hdb he hpl
  have e0 : tCall sp [] E0 t = tCal sp t := by
    funext σ H Q
    unfold tCall tCal
    simp only [List.append_nil]
  rw [e0] at h
  exact h
theorem pe_cal0 (D : Df X.prog X.w X.K X.mg X.base k f ps sp) (hr : Room k X.A) (hg : Gl X x) (hm : X.mg x = some (.ref f)) (hdb : (x == ("__debug__" : Str)) = false := by decide) :
    PE X (.Call (.Name x p) [] [] pos) (tCal sp tNil) := by
  obtain ⟨⟨fd, F, b⟩, kp⟩ := D
  have h := pe_call0 (p := p) (pos := pos) F hr hg hm kp b .nil pass0 hdb
  have e0 : tCall sp [] E0 tNil = tCal sp tNil := by
    funext σ H Q
    unfold tCall tCal
    simp only [List.append_nil]
  rw [e0] at h
  exact h
theorem pe_mth {pl : Sem Bool} (he : PE X o ta) (c : Cls X.K C) (hm : Meth X.K C m f) (D : Df X.prog X.w X.K X.mg X.base k f ps sp) (hr : Room k X.A) (ha : PA X (e :: es) t)
    (hst : starEach (e :: es) X.env = (false, eval e X.env) :: starEach es X.env := by rfl) (hpl : (backTo pos (starEach es X.env)).any (·.1) = false := by rfl)
    (ht : eval (.Call (.Attribute o m apos) (e :: es) [] pos) X.env = (do
      let ov ← eval o X.env
      standAt apos.atName
      let (f, first) ← holding [ov] (getMethod ov m pl)
      callWith pos f first (backTo pos (starEach (e :: es) X.env)) (backToKw pos (keywordEach [] X.env))) := by rfl) :
    PE X (.Call (.Attribute o m apos) (e :: es) [] pos) (tMth C m sp ta t) := by
  obtain ⟨⟨fd, F, b⟩, kp⟩ := D
  have h := pe_meth (apos := apos) he c hm F hr b .nil pass0 ha hst hpl ht
  have e0 : tMeth C m sp [] E0 ta t = tMth C m sp ta t := by
    funext σ H Q
    unfold tMeth tMth
    simp only [List.append_nil]
  rw [e0] at h
  exact h
theorem pe_mth0 {pl : Sem Bool} (he : PE X o ta) (c : Cls X.K C) (hm : Meth X.K C m f) (D : Df X.prog X.w X.K X.mg X.base k f ps sp) (hr : Room k X.A)
    (ht : eval (.Call (.Attribute o m apos) [] [] pos) X.env = (do
      let ov ← eval o X.env
      standAt apos.atName
      let (f, first) ← holding [ov] (getMethod ov m pl)
      callWith pos f first (backTo pos (starEach [] X.env)) (backToKw pos (keywordEach [] X.env))) := by rfl) :
    PE X (.Call (.Attribute o m apos) [] [] pos) (tMth C m sp ta tNil) := by
  obtain ⟨⟨fd, F, b⟩, kp⟩ := D
  have h := pe_meth0 (apos := apos) (pos := pos) he c hm F hr b .nil pass0 ht
  have e0 : tMeth C m sp [] E0 ta tNil = tMth C m sp ta tNil := by
    funext σ H Q
    unfold tMeth tMth
    simp only [List.append_nil]
  rw [e0] at h
  exact h
theorem pe_mak (M : Mk X.K C f) (D : Df X.prog X.w X.K X.mg X.base k f ps sp) (hr : Room (k + 1) X.A) (hg : Gl X x) (hm : X.mg x = some (.ref C)) (ha : PA X (e :: es) t)
    (hdb : (x == ("__debug__" : Str)) = false := by decide) (he : starEach (e :: es) X.env = (false, eval e X.env) :: starEach es X.env := by rfl) (hpl : (backTo pos (starEach es X.env)).any (·.1) = false := by rfl) :
    PE X (.Call (.Name x p) (e :: es) [] pos) (tMak C sp t) := by
  obtain ⟨⟨fd, F, b⟩, kp⟩ := D
  have h := pe_make (p := p) M F hr hg hm b .nil pass0 ha hdb he hpl
  have e0 : tMake C sp [] E0 t = tMak C sp t := by
    funext σ H Q
    unfold tMake tMak
    simp only [List.append_nil]
  rw [e0] at h
  exact h
/-- a number of the top -/
theorem pe_cst {z : Int} (hg : Gl X x) (hm : ∃ u, X.mg x = some (.int z u)) (hd : (x == ("__debug__" : Str)) = false := by decide) : PE X (.Name x pos) (tC (.int z)) := by
  obtain ⟨u, e⟩ := hm
  exact pe_glob hg e ⟨u, rfl⟩ hd
end
/-- a table of the top: a tuple of tuples of numbers -/
def TabOf (K : PySem.W.Frag) (a : Addr) (rows : List (List Int)) : Prop := ∃ ts : List Addr, (∀ H, SqT K H a (ts.map V.ref)) ∧ ts.length = rows.length ∧ ∀ (i : Nat) (t : Addr) (r : List Int), ts[i]? = some t → rows[i]? = some r → ∀ H, SqT K H t (r.map V.int)
/-! ### lists that comprehensions make for cells -/
theorem sw_cell {elt : Expr} {gs : List Comprehension} {scope : Scope} {pos py : Pos} {y : Str} {l : Nat} {env : Env} (hy : env.scope.names.lookup y = some .cell) : swapsWith (.ListComp elt gs scope pos) (some (.Name y py)) l env = pure false := by
  have ky : env.kindOf y = some .cell := hy
  unfold swapsWith
  simp only [ky]
  have e : (some NameKind.cell == some NameKind.local) = false := by decide
  rw [e, Bool.and_false, Bool.false_and, Bool.false_and]
/-- len, where the rule cannot be found by unification (within a comprehension) -/
def rLn (K : PySem.W.Frag) : List V → Hp → VK → Prop := fun xs H Q => ∃ p ys, xs = [.ref p] ∧ (SqL K H p ys ∨ SqT K H p ys) ∧ Q (.int ys.length) H
end Jw
namespace Jw
open PySem PySem.Spec PyProof.Rows L2
/-! ### the text: places, scopes (printed by gen.py) -/
def top (i : Nat) : Stmt := PySem.Challenge.pw_jointwalls_s01_answers.main.body.getD i (.Pass ⟨0, 0, 0, 0⟩)
abbrev s_rows_of : Stmt := top 1
theorem sc_rows_of : FnScope ["length", "stone_lengths", "rows_by_total", "total"] ["length", "stone_lengths"] (defScope s_rows_of) := ⟨rfl, rfl, rfl, by decide +kernel, rfl, by decide +kernel, by decide +kernel⟩
abbrev s_rows_of_total : Stmt := top 2
theorem sc_rows_of_total : FnScope ["total", "stone_lengths", "rows_by_total", "rows", "stone", "rest"] ["total", "stone_lengths", "rows_by_total"] (defScope s_rows_of_total) := ⟨rfl, rfl, rfl, by decide +kernel, rfl, by decide +kernel, by decide +kernel⟩
abbrev s_is_row : Stmt := top 3
theorem sc_is_row : FnScope ["stones", "length", "stone_lengths", "stone"] ["stones", "length", "stone_lengths"] (defScope s_is_row) := ⟨rfl, rfl, rfl, by decide +kernel, rfl, by decide +kernel, by decide +kernel⟩
abbrev s_joints_of : Stmt := top 4
theorem sc_joints_of : FnScope ["row", "joints", "end", "stone"] ["row"] (defScope s_joints_of) := ⟨rfl, rfl, rfl, by decide +kernel, rfl, by decide +kernel, by decide +kernel⟩
abbrev s_joint_bits : Stmt := top 5
theorem sc_joint_bits : FnScope ["row", "bits", "joint"] ["row"] (defScope s_joint_bits) := ⟨rfl, rfl, rfl, by decide +kernel, rfl, by decide +kernel, by decide +kernel⟩
abbrev s_is_compatible : Stmt := top 6
theorem sc_is_compatible : FnScope ["first", "second"] ["first", "second"] (defScope s_is_compatible) := ⟨rfl, rfl, rfl, by decide +kernel, rfl, by decide +kernel, by decide +kernel⟩
abbrev s_compatible_rows : Stmt := top 7
theorem sc_compatible_rows : FnScope ["rows", "bits", "compatible", "own", "row", "i"] ["rows"] (defScope s_compatible_rows) := ⟨rfl, rfl, rfl, by decide +kernel, rfl, by decide +kernel, by decide +kernel⟩
abbrev s_fewest_stones : Stmt := top 10
theorem sc_fewest_stones : FnScope ["stone_lengths", "fewest", "total", "counts", "stone"] ["stone_lengths"] (defScope s_fewest_stones) := ⟨rfl, rfl, rfl, by decide +kernel, rfl, by decide +kernel, by decide +kernel⟩
abbrev s_count_walls : Stmt := top 12
theorem sc_count_walls : FnScope ["height", "compatible", "counts", "step"] ["height", "compatible"] (defScope s_count_walls) := ⟨rfl, rfl, rfl, by decide +kernel, rfl, by decide +kernel, by decide +kernel⟩
abbrev s_one_row_higher : Stmt := top 13
theorem sc_one_row_higher : FnScope ["counts", "compatible", "higher", "below", "i"] ["counts", "compatible"] (defScope s_one_row_higher) := ⟨rfl, rfl, rfl, by decide +kernel, rfl, by decide +kernel, by decide +kernel⟩
abbrev s_find_first_wall : Stmt := top 14
theorem sc_find_first_wall : FnScope ["height", "compatible", "lowest"] ["height", "compatible"] (defScope s_find_first_wall) := ⟨rfl, rfl, rfl, by decide +kernel, rfl, by decide +kernel, by decide +kernel⟩
abbrev s_wall_upon : Stmt := top 15
theorem sc_wall_upon : FnScope ["lowest", "height", "compatible", "wall"] ["lowest", "height", "compatible"] (defScope s_wall_upon) := ⟨rfl, rfl, rfl, by decide +kernel, rfl, by decide +kernel, by decide +kernel⟩
abbrev s_find_loneliest : Stmt := top 16
theorem sc_find_loneliest : FnScope ["compatible", "counts", "numbers"] ["compatible"] (defScope s_find_loneliest) := ⟨rfl, rfl, rfl, by decide +kernel, rfl, by decide +kernel, by decide +kernel⟩
abbrev s_is_wall : Stmt := top 17
theorem sc_is_wall : FnScope ["numbers", "compatible", "place"] ["numbers", "compatible"] (defScope s_is_wall) := ⟨rfl, rfl, rfl, by decide +kernel, rfl, by decide +kernel, by decide +kernel⟩
abbrev s_answers : Stmt := top 46
theorem sc_answers : FnScope ["calls", "reader", "masonry", "given", "operation", "parts", "answer"] ["calls"] (defScope s_answers) := ⟨rfl, rfl, rfl, by decide +kernel, rfl, by decide +kernel, by decide +kernel⟩
abbrev s_answer_of : Stmt := top 47
theorem sc_answer_of : FnScope ["masonry", "operation", "parts"] ["masonry", "operation", "parts"] (defScope s_answer_of) := ⟨rfl, rfl, rfl, by decide +kernel, rfl, by decide +kernel, by decide +kernel⟩
abbrev s_is_length : Stmt := top 48
theorem sc_is_length : FnScope ["number"] ["number"] (defScope s_is_length) := ⟨rfl, rfl, rfl, by decide +kernel, rfl, by decide +kernel, by decide +kernel⟩
abbrev s_is_total : Stmt := top 49
theorem sc_is_total : FnScope ["number"] ["number"] (defScope s_is_total) := ⟨rfl, rfl, rfl, by decide +kernel, rfl, by decide +kernel, by decide +kernel⟩
abbrev s_yes_or_no : Stmt := top 50
theorem sc_yes_or_no : FnScope ["truth"] ["truth"] (defScope s_yes_or_no) := ⟨rfl, rfl, rfl, by decide +kernel, rfl, by decide +kernel, by decide +kernel⟩
abbrev s_counted : Stmt := top 51
theorem sc_counted : FnScope ["numbers"] ["numbers"] (defScope s_counted) := ⟨rfl, rfl, rfl, by decide +kernel, rfl, by decide +kernel, by decide +kernel⟩
abbrev s_Reader_init : Stmt := inClass (top 52) 0
theorem sc_Reader_init : FnScope ["self", "calls"] ["self", "calls"] (defScope s_Reader_init) := ⟨rfl, rfl, rfl, by decide +kernel, rfl, by decide +kernel, by decide +kernel⟩
abbrev s_Reader_has_more : Stmt := inClass (top 52) 1
theorem sc_Reader_has_more : FnScope ["self"] ["self"] (defScope s_Reader_has_more) := ⟨rfl, rfl, rfl, by decide +kernel, rfl, by decide +kernel, by decide +kernel⟩
abbrev s_Reader_number : Stmt := inClass (top 52) 2
theorem sc_Reader_number : FnScope ["self", "taken"] ["self"] (defScope s_Reader_number) := ⟨rfl, rfl, rfl, by decide +kernel, rfl, by decide +kernel, by decide +kernel⟩
abbrev s_Reader_number_list : Stmt := inClass (top 52) 3
theorem sc_Reader_number_list : FnScope ["self", "size", "taken"] ["self"] (defScope s_Reader_number_list) := ⟨rfl, rfl, rfl, by decide +kernel, rfl, by decide +kernel, by decide +kernel⟩
abbrev s_Reader_parts : Stmt := inClass (top 52) 4
theorem sc_Reader_parts : FnScope ["self", "operation", "shape", "taken", "turn"] ["self", "operation"] (defScope s_Reader_parts) := ⟨rfl, rfl, rfl, by decide +kernel, rfl, by decide +kernel, by decide +kernel⟩
abbrev s_Masonry_init : Stmt := inClass (top 53) 0
theorem sc_Masonry_init : FnScope ["self", "length"] ["self", "length"] (defScope s_Masonry_init) := ⟨rfl, rfl, rfl, by decide +kernel, rfl, by decide +kernel, by decide +kernel⟩
abbrev s_Masonry_rows : Stmt := inClass (top 53) 1
theorem sc_Masonry_rows : FnScope ["self"] ["self"] (defScope s_Masonry_rows) := ⟨rfl, rfl, rfl, by decide +kernel, rfl, by decide +kernel, by decide +kernel⟩
abbrev s_Masonry_add_stone_length : Stmt := inClass (top 53) 2
theorem sc_Masonry_add_stone_length : FnScope ["self", "k"] ["self", "k"] (defScope s_Masonry_add_stone_length) := ⟨rfl, rfl, rfl, by decide +kernel, rfl, by decide +kernel, by decide +kernel⟩
abbrev s_Masonry_remove_stone_length : Stmt := inClass (top 53) 3
theorem sc_Masonry_remove_stone_length : FnScope ["self", "k"] ["self", "k"] (defScope s_Masonry_remove_stone_length) := ⟨rfl, rfl, rfl, by decide +kernel, rfl, by decide +kernel, by decide +kernel⟩
abbrev s_Masonry_set_length : Stmt := inClass (top 53) 4
theorem sc_Masonry_set_length : FnScope ["self", "length", "old_length"] ["self", "length"] (defScope s_Masonry_set_length) := ⟨rfl, rfl, rfl, by decide +kernel, rfl, by decide +kernel, by decide +kernel⟩
abbrev s_Masonry_row_count : Stmt := inClass (top 53) 5
theorem sc_Masonry_row_count : FnScope ["self"] ["self"] (defScope s_Masonry_row_count) := ⟨rfl, rfl, rfl, by decide +kernel, rfl, by decide +kernel, by decide +kernel⟩
abbrev s_Masonry_row : Stmt := inClass (top 53) 6
theorem sc_Masonry_row : FnScope ["self", "i", "rows"] ["self", "i"] (defScope s_Masonry_row) := ⟨rfl, rfl, rfl, by decide +kernel, rfl, by decide +kernel, by decide +kernel⟩
abbrev s_Masonry_joints : Stmt := inClass (top 53) 7
theorem sc_Masonry_joints : FnScope ["self", "i", "rows"] ["self", "i"] (defScope s_Masonry_joints) := ⟨rfl, rfl, rfl, by decide +kernel, rfl, by decide +kernel, by decide +kernel⟩
abbrev s_Masonry_compatible_count : Stmt := inClass (top 53) 8
theorem sc_Masonry_compatible_count : FnScope ["self", "i", "rows", "row"] ["self", "i"] (defScope s_Masonry_compatible_count) := ⟨rfl, rfl, rfl, by decide +kernel, rfl, by decide +kernel, by decide +kernel⟩
abbrev s_Masonry_are_compatible : Stmt := inClass (top 53) 9
theorem sc_Masonry_are_compatible : FnScope ["self", "first", "second", "stones"] ["self", "first", "second"] (defScope s_Masonry_are_compatible) := ⟨rfl, rfl, rfl, by decide +kernel, rfl, by decide +kernel, by decide +kernel⟩
abbrev s_Masonry_wall_count : Stmt := inClass (top 53) 10
theorem sc_Masonry_wall_count : FnScope ["self", "height"] ["self", "height"] (defScope s_Masonry_wall_count) := ⟨rfl, rfl, rfl, by decide +kernel, rfl, by decide +kernel, by decide +kernel⟩
abbrev s_Masonry_first_wall : Stmt := inClass (top 53) 11
theorem sc_Masonry_first_wall : FnScope ["self", "height", "wall"] ["self", "height"] (defScope s_Masonry_first_wall) := ⟨rfl, rfl, rfl, by decide +kernel, rfl, by decide +kernel, by decide +kernel⟩
abbrev s_Masonry_is_possible_length : Stmt := inClass (top 53) 12
theorem sc_Masonry_is_possible_length : FnScope ["self", "m"] ["self", "m"] (defScope s_Masonry_is_possible_length) := ⟨rfl, rfl, rfl, by decide +kernel, rfl, by decide +kernel, by decide +kernel⟩
abbrev s_Masonry_impossible_lengths : Stmt := inClass (top 53) 13
theorem sc_Masonry_impossible_lengths : FnScope ["self", "fewest", "lengths", "m"] ["self"] (defScope s_Masonry_impossible_lengths) := ⟨rfl, rfl, rfl, by decide +kernel, rfl, by decide +kernel, by decide +kernel⟩
abbrev s_Masonry_min_stones : Stmt := inClass (top 53) 14
theorem sc_Masonry_min_stones : FnScope ["self", "m", "fewest"] ["self", "m"] (defScope s_Masonry_min_stones) := ⟨rfl, rfl, rfl, by decide +kernel, rfl, by decide +kernel, by decide +kernel⟩
abbrev s_Masonry_loneliest_row : Stmt := inClass (top 53) 15
theorem sc_Masonry_loneliest_row : FnScope ["self", "compatible", "i"] ["self"] (defScope s_Masonry_loneliest_row) := ⟨rfl, rfl, rfl, by decide +kernel, rfl, by decide +kernel, by decide +kernel⟩
abbrev s_Masonry_check_wall : Stmt := inClass (top 53) 16
theorem sc_Masonry_check_wall : FnScope ["self", "numbers", "rows", "i"] ["self", "numbers"] (defScope s_Masonry_check_wall) := ⟨rfl, rfl, rfl, by decide +kernel, rfl, by decide +kernel, by decide +kernel⟩
abbrev s_Masonry_describe : Stmt := inClass (top 53) 17
theorem sc_Masonry_describe : FnScope ["self"] ["self"] (defScope s_Masonry_describe) := ⟨rfl, rfl, rfl, by decide +kernel, rfl, by decide +kernel, by decide +kernel⟩
structure Adr where
  (f_rows_of f_rows_of_total f_is_row f_joints_of f_joint_bits f_is_compatible f_compatible_rows f_fewest_stones f_count_walls f_one_row_higher f_find_first_wall f_wall_upon f_find_loneliest f_is_wall f_answers f_answer_of f_is_length f_is_total f_yes_or_no f_counted f_Reader_init f_Reader_has_more f_Reader_number f_Reader_number_list f_Reader_parts f_Masonry_init f_Masonry_rows f_Masonry_add_stone_length f_Masonry_remove_stone_length f_Masonry_set_length f_Masonry_row_count f_Masonry_row f_Masonry_joints f_Masonry_compatible_count f_Masonry_are_compatible f_Masonry_wall_count f_Masonry_first_wall f_Masonry_is_possible_length f_Masonry_impossible_lengths f_Masonry_min_stones f_Masonry_loneliest_row f_Masonry_check_wall f_Masonry_describe : Addr)
  (c_Reader c_Masonry : Addr)
  (t_SHAPES : Addr)
/-- what the top has written -/
structure Txt (K : PySem.W.Frag) (mg : Str → Option Value) (A : Adr) : Prop where
  F_rows_of : FB K "rows_of" "rows_of" s_rows_of A.f_rows_of ["length", "stone_lengths"]
  g_rows_of : mg "rows_of" = some (.ref A.f_rows_of)
  F_rows_of_total : FB K "rows_of_total" "rows_of_total" s_rows_of_total A.f_rows_of_total ["total", "stone_lengths", "rows_by_total"]
  g_rows_of_total : mg "rows_of_total" = some (.ref A.f_rows_of_total)
  F_is_row : FB K "is_row" "is_row" s_is_row A.f_is_row ["stones", "length", "stone_lengths"]
  g_is_row : mg "is_row" = some (.ref A.f_is_row)
  F_joints_of : FB K "joints_of" "joints_of" s_joints_of A.f_joints_of ["row"]
  g_joints_of : mg "joints_of" = some (.ref A.f_joints_of)
  F_joint_bits : FB K "joint_bits" "joint_bits" s_joint_bits A.f_joint_bits ["row"]
  g_joint_bits : mg "joint_bits" = some (.ref A.f_joint_bits)
  F_is_compatible : FB K "is_compatible" "is_compatible" s_is_compatible A.f_is_compatible ["first", "second"]
  g_is_compatible : mg "is_compatible" = some (.ref A.f_is_compatible)
  F_compatible_rows : FB K "compatible_rows" "compatible_rows" s_compatible_rows A.f_compatible_rows ["rows"]
  g_compatible_rows : mg "compatible_rows" = some (.ref A.f_compatible_rows)
  F_fewest_stones : FB K "fewest_stones" "fewest_stones" s_fewest_stones A.f_fewest_stones ["stone_lengths"]
  g_fewest_stones : mg "fewest_stones" = some (.ref A.f_fewest_stones)
  F_count_walls : FB K "count_walls" "count_walls" s_count_walls A.f_count_walls ["height", "compatible"]
  g_count_walls : mg "count_walls" = some (.ref A.f_count_walls)
  F_one_row_higher : FB K "one_row_higher" "one_row_higher" s_one_row_higher A.f_one_row_higher ["counts", "compatible"]
  g_one_row_higher : mg "one_row_higher" = some (.ref A.f_one_row_higher)
  F_find_first_wall : FB K "find_first_wall" "find_first_wall" s_find_first_wall A.f_find_first_wall ["height", "compatible"]
  g_find_first_wall : mg "find_first_wall" = some (.ref A.f_find_first_wall)
  F_wall_upon : FB K "wall_upon" "wall_upon" s_wall_upon A.f_wall_upon ["lowest", "height", "compatible"]
  g_wall_upon : mg "wall_upon" = some (.ref A.f_wall_upon)
  F_find_loneliest : FB K "find_loneliest" "find_loneliest" s_find_loneliest A.f_find_loneliest ["compatible"]
  g_find_loneliest : mg "find_loneliest" = some (.ref A.f_find_loneliest)
  F_is_wall : FB K "is_wall" "is_wall" s_is_wall A.f_is_wall ["numbers", "compatible"]
  g_is_wall : mg "is_wall" = some (.ref A.f_is_wall)
  F_answers : FB K "answers" "answers" s_answers A.f_answers ["calls"]
  g_answers : mg "answers" = some (.ref A.f_answers)
  F_answer_of : FB K "answer_of" "answer_of" s_answer_of A.f_answer_of ["masonry", "operation", "parts"]
  g_answer_of : mg "answer_of" = some (.ref A.f_answer_of)
  F_is_length : FB K "is_length" "is_length" s_is_length A.f_is_length ["number"]
  g_is_length : mg "is_length" = some (.ref A.f_is_length)
  F_is_total : FB K "is_total" "is_total" s_is_total A.f_is_total ["number"]
  g_is_total : mg "is_total" = some (.ref A.f_is_total)
  F_yes_or_no : FB K "yes_or_no" "yes_or_no" s_yes_or_no A.f_yes_or_no ["truth"]
  g_yes_or_no : mg "yes_or_no" = some (.ref A.f_yes_or_no)
  F_counted : FB K "counted" "counted" s_counted A.f_counted ["numbers"]
  g_counted : mg "counted" = some (.ref A.f_counted)
  F_Reader_init : FB K "__init__" "Reader.__init__" s_Reader_init A.f_Reader_init ["self", "calls"]
  F_Reader_has_more : FB K "has_more" "Reader.has_more" s_Reader_has_more A.f_Reader_has_more ["self"]
  m_Reader_has_more : Meth K A.c_Reader "has_more" A.f_Reader_has_more
  F_Reader_number : FB K "number" "Reader.number" s_Reader_number A.f_Reader_number ["self"]
  m_Reader_number : Meth K A.c_Reader "number" A.f_Reader_number
  F_Reader_number_list : FB K "number_list" "Reader.number_list" s_Reader_number_list A.f_Reader_number_list ["self"]
  m_Reader_number_list : Meth K A.c_Reader "number_list" A.f_Reader_number_list
  F_Reader_parts : FB K "parts" "Reader.parts" s_Reader_parts A.f_Reader_parts ["self", "operation"]
  m_Reader_parts : Meth K A.c_Reader "parts" A.f_Reader_parts
  F_Masonry_init : FB K "__init__" "Masonry.__init__" s_Masonry_init A.f_Masonry_init ["self", "length"]
  F_Masonry_rows : FB K "rows" "Masonry.rows" s_Masonry_rows A.f_Masonry_rows ["self"]
  m_Masonry_rows : Meth K A.c_Masonry "rows" A.f_Masonry_rows
  F_Masonry_add_stone_length : FB K "add_stone_length" "Masonry.add_stone_length" s_Masonry_add_stone_length A.f_Masonry_add_stone_length ["self", "k"]
  m_Masonry_add_stone_length : Meth K A.c_Masonry "add_stone_length" A.f_Masonry_add_stone_length
  F_Masonry_remove_stone_length : FB K "remove_stone_length" "Masonry.remove_stone_length" s_Masonry_remove_stone_length A.f_Masonry_remove_stone_length ["self", "k"]
  m_Masonry_remove_stone_length : Meth K A.c_Masonry "remove_stone_length" A.f_Masonry_remove_stone_length
  F_Masonry_set_length : FB K "set_length" "Masonry.set_length" s_Masonry_set_length A.f_Masonry_set_length ["self", "length"]
  m_Masonry_set_length : Meth K A.c_Masonry "set_length" A.f_Masonry_set_length
  F_Masonry_row_count : FB K "row_count" "Masonry.row_count" s_Masonry_row_count A.f_Masonry_row_count ["self"]
  m_Masonry_row_count : Meth K A.c_Masonry "row_count" A.f_Masonry_row_count
  F_Masonry_row : FB K "row" "Masonry.row" s_Masonry_row A.f_Masonry_row ["self", "i"]
  m_Masonry_row : Meth K A.c_Masonry "row" A.f_Masonry_row
  F_Masonry_joints : FB K "joints" "Masonry.joints" s_Masonry_joints A.f_Masonry_joints ["self", "i"]
  m_Masonry_joints : Meth K A.c_Masonry "joints" A.f_Masonry_joints
  F_Masonry_compatible_count : FB K "compatible_count" "Masonry.compatible_count" s_Masonry_compatible_count A.f_Masonry_compatible_count ["self", "i"]
  m_Masonry_compatible_count : Meth K A.c_Masonry "compatible_count" A.f_Masonry_compatible_count
  F_Masonry_are_compatible : FB K "are_compatible" "Masonry.are_compatible" s_Masonry_are_compatible A.f_Masonry_are_compatible ["self", "first", "second"]
  m_Masonry_are_compatible : Meth K A.c_Masonry "are_compatible" A.f_Masonry_are_compatible
  F_Masonry_wall_count : FB K "wall_count" "Masonry.wall_count" s_Masonry_wall_count A.f_Masonry_wall_count ["self", "height"]
  m_Masonry_wall_count : Meth K A.c_Masonry "wall_count" A.f_Masonry_wall_count
  F_Masonry_first_wall : FB K "first_wall" "Masonry.first_wall" s_Masonry_first_wall A.f_Masonry_first_wall ["self", "height"]
  m_Masonry_first_wall : Meth K A.c_Masonry "first_wall" A.f_Masonry_first_wall
  F_Masonry_is_possible_length : FB K "is_possible_length" "Masonry.is_possible_length" s_Masonry_is_possible_length A.f_Masonry_is_possible_length ["self", "m"]
  m_Masonry_is_possible_length : Meth K A.c_Masonry "is_possible_length" A.f_Masonry_is_possible_length
  F_Masonry_impossible_lengths : FB K "impossible_lengths" "Masonry.impossible_lengths" s_Masonry_impossible_lengths A.f_Masonry_impossible_lengths ["self"]
  m_Masonry_impossible_lengths : Meth K A.c_Masonry "impossible_lengths" A.f_Masonry_impossible_lengths
  F_Masonry_min_stones : FB K "min_stones" "Masonry.min_stones" s_Masonry_min_stones A.f_Masonry_min_stones ["self", "m"]
  m_Masonry_min_stones : Meth K A.c_Masonry "min_stones" A.f_Masonry_min_stones
  F_Masonry_loneliest_row : FB K "loneliest_row" "Masonry.loneliest_row" s_Masonry_loneliest_row A.f_Masonry_loneliest_row ["self"]
  m_Masonry_loneliest_row : Meth K A.c_Masonry "loneliest_row" A.f_Masonry_loneliest_row
  F_Masonry_check_wall : FB K "check_wall" "Masonry.check_wall" s_Masonry_check_wall A.f_Masonry_check_wall ["self", "numbers"]
  m_Masonry_check_wall : Meth K A.c_Masonry "check_wall" A.f_Masonry_check_wall
  F_Masonry_describe : FB K "describe" "Masonry.describe" s_Masonry_describe A.f_Masonry_describe ["self"]
  m_Masonry_describe : Meth K A.c_Masonry "describe" A.f_Masonry_describe
  cl_Reader : Cls K A.c_Reader
  g_Reader : mg "Reader" = some (.ref A.c_Reader)
  mk_Reader : Mk K A.c_Reader A.f_Reader_init
  n_Reader_calls : NoAttr K A.c_Reader "calls"
  n_Reader_place : NoAttr K A.c_Reader "place"
  cl_Masonry : Cls K A.c_Masonry
  g_Masonry : mg "Masonry" = some (.ref A.c_Masonry)
  mk_Masonry : Mk K A.c_Masonry A.f_Masonry_init
  n_Masonry_length : NoAttr K A.c_Masonry "length"
  n_Masonry_stone_lengths : NoAttr K A.c_Masonry "stone_lengths"
  c_GREATEST_TOTAL : ∃ t, mg "GREATEST_TOTAL" = some (.int (60) t)
  c_NO_INSTANCE : ∃ t, mg "NO_INSTANCE" = some (.int (-11) t)
  c_NOT_THERE : ∃ t, mg "NOT_THERE" = some (.int (-2) t)
  c_ALREADY_THERE : ∃ t, mg "ALREADY_THERE" = some (.int (-17) t)
  c_OUT_OF_RANGE : ∃ t, mg "OUT_OF_RANGE" = some (.int (-22) t)
  c_TOO_MANY : ∃ t, mg "TOO_MANY" = some (.int (-28) t)
  c_NONE_SUCH : ∃ t, mg "NONE_SUCH" = some (.int (-33) t)
  c_GREATEST_LENGTH : ∃ t, mg "GREATEST_LENGTH" = some (.int (9) t)
  c_MOST_STONE_LENGTHS : ∃ t, mg "MOST_STONE_LENGTHS" = some (.int (4) t)
  c_GREATEST_HEIGHT : ∃ t, mg "GREATEST_HEIGHT" = some (.int (8) t)
  c_MOST_LENGTHS_TOLD : ∃ t, mg "MOST_LENGTHS_TOLD" = some (.int (20) t)
  c_CREATE : ∃ t, mg "CREATE" = some (.int (0) t)
  c_ADD_STONE_LENGTH : ∃ t, mg "ADD_STONE_LENGTH" = some (.int (1) t)
  c_REMOVE_STONE_LENGTH : ∃ t, mg "REMOVE_STONE_LENGTH" = some (.int (2) t)
  c_SET_LENGTH : ∃ t, mg "SET_LENGTH" = some (.int (3) t)
  c_ROW_COUNT : ∃ t, mg "ROW_COUNT" = some (.int (4) t)
  c_ROW : ∃ t, mg "ROW" = some (.int (5) t)
  c_JOINTS : ∃ t, mg "JOINTS" = some (.int (6) t)
  c_COMPATIBLE_COUNT : ∃ t, mg "COMPATIBLE_COUNT" = some (.int (7) t)
  c_ARE_COMPATIBLE : ∃ t, mg "ARE_COMPATIBLE" = some (.int (8) t)
  c_WALL_COUNT : ∃ t, mg "WALL_COUNT" = some (.int (9) t)
  c_FIRST_WALL : ∃ t, mg "FIRST_WALL" = some (.int (10) t)
  c_IS_POSSIBLE_LENGTH : ∃ t, mg "IS_POSSIBLE_LENGTH" = some (.int (11) t)
  c_IMPOSSIBLE_LENGTHS : ∃ t, mg "IMPOSSIBLE_LENGTHS" = some (.int (12) t)
  c_MIN_STONES : ∃ t, mg "MIN_STONES" = some (.int (13) t)
  c_LONELIEST_ROW : ∃ t, mg "LONELIEST_ROW" = some (.int (14) t)
  c_CHECK_WALL : ∃ t, mg "CHECK_WALL" = some (.int (15) t)
  c_SHAPES : mg "SHAPES" = some (.ref A.t_SHAPES)
  t_SHAPES : TabOf K A.t_SHAPES [[1, 0], [1, 0], [1, 0], [1, 0], [0, 0], [1, 0], [1, 0], [1, 0], [0, 2], [1, 0], [1, 0], [1, 0], [0, 0], [1, 0], [0, 0], [0, 1], [0, 0]]
  b_len : mg "len" = none
  b_list : mg "list" = none
  b_min : mg "min" = none
  b_range : mg "range" = none
  b_sorted : mg "sorted" = none
  b_sum : mg "sum" = none
end Jw
namespace Jw
open PySem PySem.Spec PyProof.Rows L2
section
variable {P : Program} {w : World} {K : PySem.W.Frag} {mg : Str → Option Value} {base : Heap} {A : Adr}
/-! ### joints_of -/
def sp_joints_of (K : PySem.W.Frag) : Sp := fun vs H Q _ => ∃ (a : Addr) (r : List Nat), vs = [.ref a] ∧ SqL K H a (nv r) ∧ r.length ≤ 1000 ∧
  ∀ H' p, Same H H' → H p = none → H' p = some (.lst (nv (Sr112.joints r))) → Q (.ref p) H'
theorem ok_joints_of (T : Txt K mg A) : Df P w K mg base 1 A.f_joints_of ["row"] (sp_joints_of K) := by
  refine Df.of T.F_joints_of sc_joints_of (fun vs H Q E h => ?_) (fun cdv Ar outer s H vs Q E hr h => ?_)
  · obtain ⟨a, r, rfl, _⟩ := h
    rfl
  · obtain ⟨a, r, rfl, hS, hlen, q⟩ := h
    refine ⟨_, (pss_cons (ps_set (i := 1) sc_joints_of.nd rfl (Or.inl rfl) (pe_lst pa_nil))
      (pss_cons (ps_set (i := 2) sc_joints_of.nd rfl (Or.inl rfl) pe_int)
      (pss_cons (ps_for PassesOwn.never rfl (pi_list (pe_slice sl_list (pv 0) po_none (po_some (pe_un un_neg pe_int)))) (pg_name (i := 3) sc_joints_of.nd rfl (Or.inl rfl))
      (pss_cons (ps_set (i := 2) sc_joints_of.nd rfl (Or.inl rfl) (pe_op op_add (pv 2) (pv 3)))
        (pss_one (ps_expr (pe_bm PySem.F.plainAttrs_list PySem.F.slot_list_append PySem.F.type_list_append mt_append (pv 1) (pa_cons (pv 2) pa_nil))))))
      (pss_one (ps_ret (pv 1)))))), ?_⟩
    refine ⟨Nat.zero_le _, fun o no => ?_⟩
    refine ⟨_, rfl, 1, rfl, -1, rfl, a, nv r, rfl, (same_new no).seq hS, fun c nc => ?_⟩
    obtain ⟨nco, nc'⟩ := upd_free nc
    rw [cut_last, nv_dropLast]
    refine ⟨c, rfl, ⟨_, sq_same⟩, for_list (K := K) (a := c) (xs := nv r.dropLast) (fun i σ H' => ∃ (v : Option V) (H1 : Hp), σ = [some (.ref a), some (.ref o), some (.int ((r.dropLast.take i).sum : Nat)), v] ∧ Same H H1 ∧ H1 o = none ∧ H' = upd H1 o (.lst (nv (ends 0 (r.dropLast.take i)))) ∧ H1 c = some (.lst (nv r.dropLast)))
      ⟨none, upd H c (.lst (nv r.dropLast)), rfl, same_new nc', ?_, ?_, upd_same⟩ (fun i σ H' hi hp => ?_) ?_ ?_⟩
    · rw [upd_ne nco.symm]
      exact no
    · exact upd_swap nco.symm
    · obtain ⟨v, H1, rfl, s1, n1, rfl, hc⟩ := hp
      exact sq_of (same_new n1 _ _ hc)
    · rintro i x σ H' hi ⟨v, H1, rfl, s1, n1, rfl, hc⟩
      obtain ⟨n, hn, rfl⟩ := nv_get hi
      refine ⟨_, rfl, _, rfl, _, _, rfl, rfl, ?_⟩
      refine ⟨_, rfl, .inl ⟨rfl, _, sq_same⟩, _, rfl, o, _, _, rfl, rfl, upd_same, ?_, ?_⟩
      · rw [nv_len, ends_len, List.length_take]
        have := lt_of_get hn
        rw [List.length_dropLast] at this
        exact small1000 (by omega)
      · refine ⟨some (.int n), H1, ?_, s1, n1, ?_, hc⟩
        · rw [take_more hn, List.sum_append]
          simp [List.set]
        · rw [upd_upd, take_more hn, ends_more, nv_app, Nat.zero_add]
          simp [nv, ni]
    · rintro σ H' ⟨v, H1, rfl, s1, n1, rfl, hc⟩
      rw [nv_len, List.take_length] at *
      refine ⟨_, rfl, q _ o (s1.trans (same_new n1)) no ?_⟩
      rw [joints_ends]
      exact upd_same
/-! ### flat lists -/
theorem inV_nat (n : Nat) (l : List Nat) : inV (.int (n : Int)) (nv l) = l.contains n := by
  unfold inV nv ni
  rw [List.any_map, List.any_map, Bool.eq_iff_iff]
  simp only [List.any_eq_true, List.contains_iff_mem, Function.comp, eqV, beq_iff_eq]
  constructor
  · rintro ⟨x, hx, e⟩
    have : x = n := by omega
    subst this
    exact hx
  · intro h
    exact ⟨n, h, rfl⟩
theorem flat_nv (l : List Nat) : (nv l).all flatV = true := by
  unfold nv ni
  rw [List.all_map, List.all_map, List.all_eq_true]
  intro x _
  rfl
/-! ### joint_bits -/
theorem small_sum {r : List Nat} {j : Nat} (h : j ∈ Sr112.joints r) : j ≤ r.sum := by
  rw [joints_ends] at h
  have key : ∀ (l : List Nat) (s : Nat), j ∈ ends s l → j ≤ s + l.sum := by
    intro l
    induction l with
    | nil =>
      intro s h
      cases h
    | cons a t ih =>
      intro s h
      rw [List.sum_cons]
      rcases List.mem_cons.mp h with rfl | h
      · omega
      · have := ih (s + a) h
        omega
  have h1 := key _ _ h
  have h2 : ∀ l : List Nat, l.dropLast.sum ≤ l.sum := by
    intro l
    induction l with
    | nil => exact Nat.le_refl _
    | cons a t ih =>
      cases t with
      | nil => exact Nat.zero_le _
      | cons b t =>
        rw [List.dropLast_cons₂, List.sum_cons, List.sum_cons (a := a)]
        omega
  have := h2 r
  omega
def sp_joint_bits (K : PySem.W.Frag) : Sp := fun vs H Q _ => ∃ (a : Addr) (r : List Nat), vs = [.ref a] ∧ SqL K H a (nv r) ∧ r.length ≤ 1000 ∧ r.sum ≤ 1000 ∧
  ∀ H', Same H H' → Q (.int (bitsN (Sr112.joints r) : Nat)) H'
theorem ok_joint_bits (T : Txt K mg A) (D_joints_of : Df P w K mg base 1 A.f_joints_of ["row"] (sp_joints_of K)) : Df P w K mg base 2 A.f_joint_bits ["row"] (sp_joint_bits K) := by
  refine Df.of T.F_joint_bits sc_joint_bits (fun vs H Q E h => ?_) (fun cdv Ar outer s H vs Q E hr h => ?_)
  · obtain ⟨a, r, rfl, _⟩ := h
    rfl
  · obtain ⟨a, r, rfl, hA, hl, hs, q⟩ := h
    refine ⟨_, (pss_cons (ps_set (i := 1) sc_joint_bits.nd rfl (Or.inl rfl) pe_int)
      (pss_cons (ps_for PassesOwn.never rfl (pi_list (pe_cal D_joints_of (hr.mono (by decide)) (by rfl) T.g_joints_of (pa_cons (pv 0) pa_nil))) (pg_name (i := 2) sc_joint_bits.nd rfl (Or.inl rfl))
      (pss_one (ps_set (i := 1) sc_joint_bits.nd rfl (Or.inl rfl) (pe_op op_or (pv 1) (pe_op op_shl pe_int (pv 2))))))
      (pss_one (ps_ret (pv 1))))), ?_⟩
    refine ⟨_, rfl, a, r, rfl, hA, hl, fun H1 c s1 nc hc => ?_⟩
    refine ⟨c, rfl, ⟨_, sq_of hc⟩, for_list (K := K) (a := c) (xs := nv (Sr112.joints r)) (fun i σ H' => ∃ v : Option V, σ = [some (.ref a), some (.int (bitsN ((Sr112.joints r).take i) : Nat)), v] ∧ H' = H1)
      ⟨none, rfl, rfl⟩ (fun i σ H' hi hp => ?_) ?_ ?_⟩
    · obtain ⟨v, rfl, rfl⟩ := hp
      exact sq_of hc
    · rintro i x σ H' hi ⟨v, rfl, rfl⟩
      obtain ⟨n, hn, rfl⟩ := nv_get hi
      have hn1 := small_sum (List.mem_of_getElem? hn)
      refine ⟨_, rfl, _, rfl, _, _, rfl, rfl, ⟨by omega, by omega, by decide⟩, _, _, rfl, rfl, ?_⟩
      refine ⟨some (.int n), ?_, rfl⟩
      rw [take_more hn, bits_more]
      have e : Builtin.bitOr ((bitsN ((Sr112.joints r).take i) : Nat) : Int) (1 * 2 ^ (n : Int).toNat) = ((bitsN ((Sr112.joints r).take i) ||| 2 ^ n : Nat) : Int) := by
        have e1 : (1 * 2 ^ (n : Int).toNat : Int) = ((2 ^ n : Nat) : Int) := by
          rw [Int.one_mul, Int.toNat_natCast]
          exact (Int.natCast_pow 2 n).symm
        rw [e1, Bits.bitOr_pp (Int.natCast_nonneg _) (Int.natCast_nonneg _), Int.toNat_natCast, Int.toNat_natCast]
      exact congrArg (fun z : Int => [some (V.ref a), some (V.int z), some (V.int (n : Int))]) e
    · rintro σ H' ⟨v, rfl, rfl⟩
      rw [nv_len, List.take_length]
      exact ⟨_, rfl, q H' s1⟩
/-! ### is_compatible -/
theorem and_dec (r s : List Nat) : decide (V.int (Builtin.bitAnd ((bitsN (Sr112.joints r) : Nat) : Int) ((bitsN (Sr112.joints s) : Nat) : Int)) = V.int 0) = Sr112.areCompatible r s := by
  rw [PySem.W.os_band, Bool.eq_iff_iff, decide_eq_true_eq, ← bits_zero]
  constructor
  · intro h
    have := V.int.inj h
    omega
  · intro h
    rw [h]
    rfl
def sp_is_compatible (K : PySem.W.Frag) : Sp := fun vs H Q _ => ∃ (a b : Addr) (r s : List Nat), vs = [.ref a, .ref b] ∧ SqL K H a (nv r) ∧ SqL K H b (nv s) ∧ r.length ≤ 1000 ∧ s.length ≤ 1000 ∧ r.sum ≤ 1000 ∧ s.sum ≤ 1000 ∧
  ∀ H', Same H H' → Q (.bl (Sr112.areCompatible r s)) H'
theorem ok_is_compatible (T : Txt K mg A) (D_joint_bits : Df P w K mg base 2 A.f_joint_bits ["row"] (sp_joint_bits K)) : Df P w K mg base 3 A.f_is_compatible ["first", "second"] (sp_is_compatible K) := by
  refine Df.of T.F_is_compatible sc_is_compatible (fun vs H Q E h => ?_) (fun cdv Ar outer s H vs Q E hr h => ?_)
  · obtain ⟨a, b, r, s, rfl, _⟩ := h
    rfl
  · obtain ⟨a, b, r, s, rfl, hA, hB, hl1, hl2, hs1, hs2, q⟩ := h
    refine ⟨_, (pss_one (ps_ret (pe_cmpR op_eq (pe_op op_and (pe_cal D_joint_bits (hr.mono (by decide)) (by rfl) T.g_joint_bits (pa_cons (pv 0) pa_nil)) (pe_cal D_joint_bits (hr.mono (by decide)) (by rfl) T.g_joint_bits (pa_cons (pv 1) pa_nil))) pe_int (nomark _)))), ?_⟩
    refine ⟨_, rfl, a, r, rfl, hA, hl1, hs1, fun H1 s1 => ⟨_, rfl, b, s, rfl, s1.seq hB, hl2, hs2, fun H2 s2 => ⟨_, _, rfl, rfl, rfl, ?_⟩⟩⟩
    show Q (.bl (decide (V.int (Builtin.bitAnd _ _) = V.int 0))) H2
    rw [and_dec]
    exact q H2 (s1.trans s2)
end
end Jw
namespace Jw
open PySem PySem.Spec PyProof.Rows L2
/-! ### rows in the heap -/
def RowsA (H : Hp) (as : List Addr) (rs : List (List Nat)) : Prop := Paired (fun a r => H a = some (.lst (nv r))) as rs
def RowsL (H : Hp) (p : Addr) (rs : List (List Nat)) : Prop := ∃ as : List Addr, H p = some (.lst (as.map V.ref)) ∧ RowsA H as rs
def TblA (H : Hp) (ps : List Addr) (rss : List (List (List Nat))) : Prop := Paired (fun p rs => RowsL H p rs) ps rss
theorem paired_get {α β : Type} {F : α → β → Prop} : ∀ {l : List α} {m : List β} {i : Nat} {b : β}, Paired F l m → m[i]? = some b → ∃ a, l[i]? = some a ∧ F a b
  | _, _, _, _, .nil, e => by simp at e
  | _, _, 0, _, .cons r _, e => by
    simp at e
    subst e
    exact ⟨_, rfl, r⟩
  | _, _, i + 1, b, .cons _ t, e => by
    obtain ⟨a, h1, h2⟩ := paired_get (i := i) (b := b) t (by simpa using e)
    exact ⟨a, by simpa using h1, h2⟩
theorem paired_get' {α β : Type} {F : α → β → Prop} : ∀ {l : List α} {m : List β} {i : Nat} {a : α}, Paired F l m → l[i]? = some a → ∃ b, m[i]? = some b ∧ F a b
  | _, _, _, _, .nil, e => by simp at e
  | _, _, 0, _, .cons r _, e => by
    simp at e
    subst e
    exact ⟨_, rfl, r⟩
  | _, _, i + 1, b, .cons _ t, e => by
    obtain ⟨a, h1, h2⟩ := paired_get' (i := i) (a := b) t (by simpa using e)
    exact ⟨a, by simpa using h1, h2⟩
theorem RowsA.mono {H H' : Hp} {as : List Addr} {rs : List (List Nat)} (s : Same H H') (h : RowsA H as rs) : RowsA H' as rs := Paired.mapP h fun _ _ e => s _ _ e
theorem RowsL.mono {H H' : Hp} {p : Addr} {rs : List (List Nat)} (s : Same H H') (h : RowsL H p rs) : RowsL H' p rs := by
  obtain ⟨as, e, h⟩ := h
  exact ⟨as, s _ _ e, h.mono s⟩
theorem TblA.mono {H H' : Hp} {ps : List Addr} {rss : List (List (List Nat))} (s : Same H H') (h : TblA H ps rss) : TblA H' ps rss := Paired.mapP h fun _ _ e => e.mono s
theorem up_two {H : Hp} {o c p : Addr} {x y z x' : HO} (h1 : c ≠ o) (h2 : p ≠ o) : upd (upd (upd (upd H o x) c y) p z) o x' = upd (upd (upd H c y) p z) o x' := by
  funext b
  unfold upd
  by_cases e : b = o
  · rw [if_pos e, if_pos e]
  · rw [if_neg e, if_neg e, if_neg e]
/-- the heap without what is being built at t -/
def del (H : Hp) (t : Addr) : Hp := fun b => if b = t then none else H b
theorem del_at {H : Hp} {t : Addr} : del H t t = none := if_pos rfl
theorem del_ne {H : Hp} {t b : Addr} (h : b ≠ t) : del H t b = H b := if_neg h
theorem upd_del {H : Hp} {t : Addr} {x : HO} : upd (del H t) t x = upd H t x := by
  funext b
  unfold upd del
  by_cases e : b = t
  · rw [if_pos e, if_pos e]
  · rw [if_neg e, if_neg e, if_neg e]
theorem same_del {H1 H2 : Hp} {t : Addr} {x : HO} (n : H1 t = none) (s : Same (upd H1 t x) H2) : Same H1 (del H2 t) := fun b o e => by
  have hb : b ≠ t := ne_of_none e n
  rw [del_ne hb]
  exact s b o (same_new n b o e)
theorem refs_ints {as : List Addr} {r : List Nat} (h : as.map V.ref = nv r) : as = [] := by
  cases as with
  | nil => rfl
  | cons a l =>
    cases r with
    | nil => cases h
    | cons k s =>
      rw [nv_cons] at h
      cases h
/-- rows that were made while the list at t was being built don't lie at t -/
theorem RowsL.del {H2 : Hp} {t p : Addr} {ps : List Addr} {rs : List (List Nat)} (ht : H2 t = some (.lst (ps.map V.ref))) (hps : ps ≠ []) (hp : p ≠ t) (h : RowsL H2 p rs) : RowsL (del H2 t) p rs := by
  obtain ⟨as, e, h⟩ := h
  refine ⟨as, by rw [del_ne hp]; exact e, Paired.mapP h fun a r q => ?_⟩
  have hne : a ≠ t := fun z => by
    subst z
    rw [ht] at q
    exact hps (refs_ints (HO.lst.inj (Option.some.inj q)))
  rw [del_ne hne]
  exact q
/-! ### the mathematics of a turn -/
theorem from_le (ks : List Nat) (m i : Nat) : (rowsFrom ks m (ks.take i)).length ≤ (rowsFrom ks m ks).length := by
  unfold rowsFrom
  rw [List.length_flatMap, List.length_flatMap]
  have e : ks.filter (fun k => decide (k ≤ m)) = (ks.take i).filter (fun k => decide (k ≤ m)) ++ (ks.drop i).filter (fun k => decide (k ≤ m)) := by
    rw [← List.filter_append, List.take_append_drop]
  rw [e, List.map_append, List.sum_append]
  omega
theorem from_le2 {ks : List Nat} {m i k : Nat} (hk : ks[i]? = some k) (hm : k ≤ m) : (rowsFrom ks m (ks.take i)).length + (rowsL ks (m - k)).length ≤ (rowsFrom ks m ks).length := by
  have h := from_le ks m (i + 1)
  rw [take_more hk, rowsFrom_more, if_pos hm, List.length_append, List.length_map] at h
  exact h
theorem small1000' {n : Nat} (h : n ≤ 2000) : n < sizeLine := Nat.lt_of_le_of_lt h (by decide)
theorem big_ok {n : Nat} (h : n ≤ 300000) : n < sizeLine := Nat.lt_of_le_of_lt h (by decide)
section
variable {P : Program} {w : World} {K : PySem.W.Frag} {mg : Str → Option Value} {base : Heap} {A : Adr}
/-- the stone lengths as they are kept -/
structure Stones (ks : List Nat) : Prop where
  n4 : ks.length ≤ 4
  s1 : ∀ k ∈ ks, 1 ≤ k
def sp_rows_of_total (K : PySem.W.Frag) : Sp := fun vs H Q _ => ∃ (m : Nat) (b t : Addr) (ks : List Nat) (ps : List Addr), vs = [.int (m : Int), .ref b, .ref t] ∧ SqL K H b (nv ks) ∧ SqL K H t (ps.map V.ref) ∧ TblA H ps ((List.range m).map (rowsL ks)) ∧ Stones ks ∧ 1 ≤ m ∧ m ≤ 9 ∧
  ∀ H' p, Same H H' → H p = none → RowsL H' p (rowsL ks m) → Q (.ref p) H'
theorem ok_rows_of_total (T : Txt K mg A) : Df P w K mg base 1 A.f_rows_of_total ["total", "stone_lengths", "rows_by_total"] (sp_rows_of_total K) := by
  refine Df.of T.F_rows_of_total sc_rows_of_total (fun vs H Q E h => ?_) (fun cdv Ar outer s H vs Q E hr h => ?_)
  · obtain ⟨m, b, t, ks, ps, rfl, _⟩ := h
    rfl
  · obtain ⟨m, b, t, ks, ps, rfl, hB, hT, hP, hK, hm1, hm9, q⟩ := h
    refine ⟨_, (pss_cons (ps_set (i := 3) sc_rows_of_total.nd rfl (Or.inl rfl) (pe_lst pa_nil))
      (pss_cons (ps_for PassesOwn.never rfl (pi_list (pv 1)) (pg_name (i := 4) sc_rows_of_total.nd rfl (Or.inl rfl))
      (pss_one (ps_if (pt_cmpR op_le (pv 4) (pv 0) (nomark _))
        (pss_one (ps_for PassesOwn.never rfl (pi_list (pe_ix (r := rIxL K) ix_list (pv 2) (pe_op op_sub (pv 0) (pv 4)) (fun _ _ => rfl))) (pg_name (i := 5) sc_rows_of_total.nd rfl (Or.inl rfl))
          (pss_one (ps_expr (pe_bm PySem.F.plainAttrs_list PySem.F.slot_list_append PySem.F.type_list_append mt_append (pv 3) (pa_cons (pe_op op_cat (pe_lst (pa_cons (pv 4) pa_nil)) (pv 5)) pa_nil))))))
        pss_nil)))
      (pss_one (ps_ret (pv 3))))), ?_⟩
    refine ⟨Nat.zero_le _, fun o no => ?_⟩
    have tot : (rowsFrom ks m ks).length ≤ 262144 := by
      obtain ⟨n, rfl⟩ : ∃ n, m = n + 1 := ⟨m - 1, by omega⟩
      rw [← rowsL_from hK.s1]
      exact rows_le hK.n4 hm9
    refine ⟨_, rfl, b, rfl, ⟨_, (same_new no).seq hB⟩, for_list (K := K) (a := b) (xs := nv ks) (fun i σ H' => ∃ (v4 v5 : Option V) (H1 : Hp) (as : List Addr), σ = [some (.int (m : Int)), some (.ref b), some (.ref t), some (.ref o), v4, v5] ∧ Same H H1 ∧ H1 o = none ∧ H' = upd H1 o (.lst (as.map V.ref)) ∧ RowsA H1 as (rowsFrom ks m (ks.take i)))
      ⟨none, none, H, [], rfl, Same.refl H, no, rfl, .nil⟩ (fun i σ H' hi hp => ?_) ?_ ?_⟩
    · obtain ⟨v4, v5, H1, as, rfl, s1, n1, rfl, _⟩ := hp
      exact (s1.trans (same_new n1)).seq hB
    · rintro i x σ H' hi ⟨v4, v5, H1, as, rfl, s1, n1, rfl, hR⟩
      obtain ⟨k, hk, rfl⟩ := nv_get hi
      have hk1 : 1 ≤ k := hK.s1 k (List.mem_of_getElem? hk)
      -- if stone <= total
      refine ⟨_, rfl, _, rfl, _, _, rfl, rfl, _, rfl, ite2 (fun e => ?_) (fun e => ?_)⟩
      · have hkm : k ≤ m := by
          have := of_decide_eq_true e
          omega
        -- for rest in rows_by_total[total - stone]
        have hget : ((List.range m).map (rowsL ks))[m - k]? = some (rowsL ks (m - k)) := by
          rw [List.getElem?_map, List.getElem?_range (by omega)]
          rfl
        obtain ⟨p', hp', hRp⟩ := paired_get hP hget
        obtain ⟨bs, hbs, hRb⟩ := hRp.mono s1
        have hT' : SqL K (upd H1 o (.lst (as.map V.ref))) t (ps.map V.ref) := (s1.trans (same_new n1)).seq hT
        have hp0 : (ps.map V.ref)[m - k]? = some (.ref p') := by
          rw [List.getElem?_map, hp']
          rfl
        refine ⟨_, rfl, _, rfl, _, rfl, _, _, rfl, rfl, t, ps.map V.ref, ((m - k : Nat) : Int), .ref p', rfl, ?_, hT', atI_nat hp0, p', rfl, ⟨_, sq_of (same_new n1 _ _ hbs)⟩,
          for_list (K := K) (a := p') (xs := bs.map V.ref) (fun j σ H' => ∃ (v5 : Option V) (H2 : Hp) (as2 : List Addr), σ = [some (.int (m : Int)), some (.ref b), some (.ref t), some (.ref o), some (.int (k : Int)), v5] ∧ Same H1 H2 ∧ H2 o = none ∧ H' = upd H2 o (.lst (as2.map V.ref)) ∧ RowsA H2 as2 (rowsFrom ks m (ks.take i) ++ ((rowsL ks (m - k)).take j).map fun r => k :: r))
          ⟨v5, H1, as, rfl, Same.refl H1, n1, rfl, by simpa using hR⟩ (fun j σ H' hj hp => ?_) ?_ ?_⟩
        · exact congrArg V.int (by omega)
        · obtain ⟨v5, H2, as2, rfl, s2, n2, rfl, _⟩ := hp
          exact sq_of (same_new n2 _ _ (s2 _ _ hbs))
        · rintro j y σ H' hj ⟨v5, H2, as2, rfl, s2, n2, rfl, hR2⟩
          obtain ⟨c5, hc5, rfl⟩ : ∃ c5, bs[j]? = some c5 ∧ y = V.ref c5 := by
            rw [List.getElem?_map] at hj
            cases e : bs[j]? with
            | none =>
              rw [e] at hj
              cases hj
            | some z =>
              rw [e] at hj
              exact ⟨z, rfl, (Option.some.inj hj).symm⟩
          obtain ⟨r, hr5, hrow⟩ := paired_get' hRb hc5
          have hrow2 : H2 c5 = some (.lst (nv r)) := s2 _ _ hrow
          have rl : r.length ≤ 9 := by
            have := row_len hK.s1 (List.mem_of_getElem? hr5)
            omega
          -- rows.append([stone] + rest)
          refine ⟨_, rfl, .inl ⟨rfl, _, sq_same⟩, _, rfl, (by show 1 ≤ sizeLine; decide), fun c nc => ⟨_, rfl, c, c5, _, nv r, rfl, rfl, upd_same, ?_, ?_, fun p np => ?_⟩⟩
          · have hne : c5 ≠ c := ne_of_none (same_new n2 _ _ hrow2) nc
            rw [upd_ne hne]
            exact same_new n2 _ _ hrow2
          · rw [nv_len]
            show 1 + r.length ≤ sizeLine
            exact Nat.le_of_lt (small1000 (by omega))
          · obtain ⟨nco, nc2⟩ := upd_free nc
            obtain ⟨npc, np1⟩ := upd_free np
            obtain ⟨npo, np2⟩ := upd_free np1
            refine ⟨o, as2.map V.ref, .ref p, rfl, rfl, ?_, ?_, ?_⟩
            · rw [upd_ne npo.symm, upd_ne nco.symm, upd_same]
            · have hl := Paired.length hR2
              rw [List.length_append, List.length_map, List.length_take] at hl
              have := from_le2 hk hkm
              rw [List.length_map]
              exact big_ok (by omega)
            · have hH : Same H2 (upd (upd H2 c (.lst [V.int (k : Int)])) p (.lst ([V.int (k : Int)] ++ nv r))) := (same_new nc2).trans (same_new (by rw [upd_ne npc]; exact np2))
              refine ⟨some (.ref c5), upd (upd H2 c (.lst [V.int (k : Int)])) p (.lst ([V.int (k : Int)] ++ nv r)), as2 ++ [p], rfl, s2.trans hH, ?_, ?_, ?_⟩
              · rw [upd_ne npo.symm, upd_ne nco.symm]
                exact n2
              · rw [List.map_append]
                exact up_two nco npo
              · rw [take_more hr5, List.map_append, ← List.append_assoc]
                exact (hR2.mono hH).snoc upd_same
        · rintro σ H' ⟨v5, H2, as2, rfl, s2, n2, rfl, hR2⟩
          refine ⟨_, v5, H2, as2, rfl, s1.trans s2, n2, rfl, ?_⟩
          rw [take_more hk, rowsFrom_more, if_pos hkm]
          have hl := Paired.length hRb
          rw [List.length_map, hl, List.take_length] at hR2
          exact hR2
      · have hkm : ¬ k ≤ m := fun h => e (decide_eq_true (by omega))
        refine ⟨_, v5, H1, as, rfl, s1, n1, rfl, ?_⟩
        rw [take_more hk, rowsFrom_more, if_neg hkm, List.append_nil]
        exact hR
    · rintro σ H' ⟨v4, v5, H1, as, rfl, s1, n1, rfl, hR⟩
      rw [nv_len, List.take_length] at hR
      refine ⟨_, rfl, q _ o (s1.trans (same_new n1)) no ⟨as, upd_same, ?_⟩⟩
      obtain ⟨n, rfl⟩ : ∃ n, m = n + 1 := ⟨m - 1, by omega⟩
      rw [rowsL_from hK.s1]
      exact hR.mono (same_new n1)
/-! ### rows_of -/
def sp_rows_of (K : PySem.W.Frag) : Sp := fun vs H Q _ => ∃ (m : Nat) (b : Addr) (ks : List Nat), vs = [.int (m : Int), .ref b] ∧ SqL K H b (nv ks) ∧ Stones ks ∧ m ≤ 9 ∧
  ∀ H' p, Same H H' → RowsL H' p (rowsL ks m) → Q (.ref p) H'
theorem ok_rows_of (T : Txt K mg A) (D_rows_of_total : Df P w K mg base 1 A.f_rows_of_total ["total", "stone_lengths", "rows_by_total"] (sp_rows_of_total K)) : Df P w K mg base 2 A.f_rows_of ["length", "stone_lengths"] (sp_rows_of K) := by
  refine Df.of T.F_rows_of sc_rows_of (fun vs H Q E h => ?_) (fun cdv Ar outer s H vs Q E hr h => ?_)
  · obtain ⟨m, b, ks, rfl, _⟩ := h
    rfl
  · obtain ⟨m, b, ks, rfl, hB, hK, hm9, q⟩ := h
    refine ⟨_, (pss_cons (ps_set (i := 2) sc_rows_of.nd rfl (Or.inl rfl) (pe_lst (pa_cons (pe_lst (pa_cons (pe_lst pa_nil) pa_nil)) pa_nil)))
      (pss_cons (ps_for PassesOwn.never rfl (pi_range2 (by rfl) T.b_range (pa_cons pe_int (pa_cons (pe_op op_add (pv 0) pe_int) pa_nil))) (pg_name (i := 3) sc_rows_of.nd rfl (Or.inl rfl))
      (pss_one (ps_expr (pe_bm PySem.F.plainAttrs_list PySem.F.slot_list_append PySem.F.type_list_append mt_append (pv 2) (pa_cons (pe_cal D_rows_of_total (hr.mono (by decide)) (by rfl) T.g_rows_of_total (pa_cons (pv 3) (pa_cons (pv 1) (pa_cons (pv 2) pa_nil)))) pa_nil)))))
      (pss_one (ps_ret (pe_ix (r := rIxL K) ix_list (pv 2) (pv 0) (fun _ _ => rfl)))))), ?_⟩
    -- rows_by_total = [[[]]]
    refine ⟨Nat.zero_le _, fun a0 n0 => ⟨(by show 1 ≤ sizeLine; decide), fun a1 n1 => ⟨(by show 1 ≤ sizeLine; decide), fun t nt => ?_⟩⟩⟩
    obtain ⟨ne1, nt0⟩ := upd_free nt
    obtain ⟨ne2, ntH⟩ := upd_free nt0
    obtain ⟨ne3, n1H⟩ := upd_free n1
    have s0 : Same H (upd (upd H a0 (.lst [])) a1 (.lst [.ref a0])) := (same_new n0).trans (same_new n1)
    refine ⟨_, rfl, _, _, rfl, rfl, 1, ((m : Int) + 1), rfl, ⟨by decide, by decide, by omega, by omega⟩,
      for_range (lo := 1) (n := ((m : Int) + 1 - 1).toNat) (fun i σ H' => ∃ (v : Option V) (H1 : Hp) (ps : List Addr), σ = [some (.int (m : Int)), some (.ref b), some (.ref t), v] ∧ Same H H1 ∧ H1 t = none ∧ H' = upd H1 t (.lst (ps.map V.ref)) ∧ TblA H1 ps ((List.range (i + 1)).map (rowsL ks)))
      ⟨none, _, [a1], rfl, s0, nt, rfl, ?_⟩ ?_ ?_⟩
    · refine .cons ⟨[a0], upd_same, .cons ?_ .nil⟩ .nil
      rw [upd_ne ne3.symm, upd_same]
      rfl
    · rintro i σ H' hi ⟨v, H1, ps, rfl, s1, n1, rfl, hP⟩
      have hi9 : i + 1 ≤ 9 := by omega
      refine ⟨_, rfl, .inl ⟨rfl, _, sq_same⟩, _, rfl, _, rfl, _, rfl, i + 1, b, t, ks, ps, ?_, (s1.trans (same_new n1)).seq hB, sq_same, hP.mono (same_new n1), hK, by omega, hi9, fun H2 p s2 np hp => ?_⟩
      · rw [show ((1 : Int) + (i : Int)) = ((i + 1 : Nat) : Int) by omega]
      · have et : H2 t = some (.lst (ps.map V.ref)) := s2 _ _ upd_same
        have hne : p ≠ t := fun e => by
          rw [e, upd_same] at np
          cases np
        have hlen : ps.length = i + 1 := by
          have := Paired.length hP
          rw [List.length_map, List.length_range] at this
          exact this
        refine ⟨t, ps.map V.ref, .ref p, rfl, rfl, et, ?_, ?_⟩
        · rw [List.length_map]
          exact small1000 (by omega)
        · have hps : ps ≠ [] := fun e => by
            rw [e] at hlen
            cases hlen
          refine ⟨some (.int (1 + (i : Int))), del H2 t, ps ++ [p], rfl, s1.trans (same_del n1 s2), del_at, ?_, ?_⟩
          · rw [upd_del, List.map_append]
            rfl
          · rw [List.range_succ, List.map_append]
            exact (hP.mono (same_del n1 s2)).snoc (hp.del et hps hne)
    · rintro σ H' ⟨v, H1, ps, rfl, s1, n1, rfl, hP⟩
      have hget : ((List.range (((m : Int) + 1 - 1).toNat + 1)).map (rowsL ks))[m]? = some (rowsL ks m) := by
        rw [List.getElem?_map, List.getElem?_range (by omega)]
        rfl
      obtain ⟨p', hp', hRp⟩ := paired_get hP hget
      have hp0 : (ps.map V.ref)[m]? = some (.ref p') := by
        rw [List.getElem?_map, hp']
        rfl
      exact ⟨_, rfl, _, rfl, t, _, _, _, rfl, rfl, sq_same, atI_nat hp0, q _ p' (s1.trans (same_new n1)) (hRp.mono (same_new n1))⟩
end
end Jw
namespace Jw
open PySem PySem.Spec PyProof.Rows L2
theorem lk_here {k : Str} {v : V} {r : List (Str × V)} : List.lookup k ((k, v) :: r) = some v := by
  have e : (k == k) = true := beq_self_eq_true k
  simp only [List.lookup, e]
theorem lk_past {k g : Str} {v : V} {r : List (Str × V)} (h : (k == g) = false) : List.lookup k ((g, v) :: r) = List.lookup k r := by
  simp only [List.lookup, h]
theorem put_here {f : Str} {v x : V} {r : List (Str × V)} : putF f v ((f, x) :: r) = (f, v) :: r := if_pos rfl
theorem put_past {f g : Str} {v x : V} {r : List (Str × V)} (h : ¬ g = f) : putF f v ((g, x) :: r) = (g, x) :: putF f v r := if_neg h
theorem int_get {l : List Int} {i : Nat} {x : V} (h : (l.map V.int)[i]? = some x) : ∃ n : Int, l[i]? = some n ∧ x = V.int n := by
  rw [List.getElem?_map] at h
  cases e : l[i]? with
  | none =>
    rw [e] at h
    cases h
  | some n =>
    rw [e] at h
    exact ⟨n, rfl, (Option.some.inj h).symm⟩
theorem int_at {l : List Int} {i : Nat} {n : Int} (h : l[i]? = some n) : (l.map V.int)[i]? = some (V.int n) := by
  rw [List.getElem?_map, h]
  rfl
theorem inV_int (z : Int) (l : List Int) : inV (.int z) (l.map V.int) = decide (z ∈ l) := by
  unfold inV
  rw [List.any_map, Bool.eq_iff_iff]
  simp only [List.any_eq_true, Function.comp, eqV, beq_iff_eq, decide_eq_true_eq]
  constructor
  · rintro ⟨x, hx, e⟩
    subst e
    exact hx
  · intro h
    exact ⟨z, h, rfl⟩
theorem flat_int (l : List Int) : (l.map V.int).all flatV = true := by
  rw [List.all_map, List.all_eq_true]
  intro x _
  rfl
section
variable {P : Program} {w : World} {K : PySem.W.Frag} {mg : Str → Option Value} {base : Heap} {A : Adr}
/-! ### is_row -/
def sp_is_row (K : PySem.W.Frag) : Sp := fun vs H Q _ => ∃ (a b : Addr) (r ks : List Int) (z : Int), vs = [.ref a, .int z, .ref b] ∧ SqL K H a (r.map V.int) ∧ SqL K H b (ks.map V.int) ∧
  Q (.bl ((r.all fun x => decide (x ∈ ks)) && decide (r.sum = z))) H
theorem ok_is_row (T : Txt K mg A) : Df P w K mg base 1 A.f_is_row ["stones", "length", "stone_lengths"] (sp_is_row K) := by
  refine Df.of T.F_is_row sc_is_row (fun vs H Q E h => ?_) (fun cdv Ar outer s H vs Q E hr h => ?_)
  · obtain ⟨a, b, r, ks, z, rfl, _⟩ := h
    rfl
  · obtain ⟨a, b, r, ks, z, rfl, hA, hB, q⟩ := h
    refine ⟨_, (pss_cons (ps_for PassesOwn.never rfl (pi_list (pv 0)) (pg_name (i := 3) sc_is_row.nd rfl (Or.inl rfl))
      (pss_one (ps_if (pt_cmpR op_notIn_seq (pv 3) (pv 2) (by rfl))
        (pss_one (ps_ret pe_bl))
        pss_nil)))
      (pss_one (ps_ret (pe_cmpR op_eq (pe_callB (cr_sum rfl) (by rfl) T.b_sum (by decide +kernel) (pa_cons (pv 0) pa_nil)) (pv 1) (nomark _))))), ?_⟩
    refine ⟨_, rfl, a, rfl, ⟨_, hA⟩, for_list (K := K) (a := a) (xs := r.map V.int) (fun i σ H' => ∃ v : Option V, σ = [some (.ref a), some (.int z), some (.ref b), v] ∧ H' = H ∧ ∀ x ∈ r.take i, x ∈ ks)
      ⟨none, rfl, rfl, by simp⟩ (fun i σ H' hi hp => ?_) ?_ ?_⟩
    · obtain ⟨v, rfl, rfl, _⟩ := hp
      exact hA
    · rintro i x σ H' hi ⟨v, rfl, rfl, hall⟩
      obtain ⟨n, hn, rfl⟩ := int_get hi
      refine ⟨_, rfl, _, rfl, b, _, rfl, .inl hB, rfl, flat_int _, _, rfl, ?_⟩
      show if (!inV (V.int n) (ks.map V.int)) = true then _ else _
      rw [inV_int]
      refine ite2 (fun e => ?_) (fun e => ?_)
      · have e1 : n ∉ ks := by simpa using e
        have e2 : (r.all fun x => decide (x ∈ ks)) = false := by
          rw [Bool.eq_false_iff]
          intro h
          rw [List.all_eq_true] at h
          exact e1 (of_decide_eq_true (h n (List.mem_of_getElem? hn)))
        rw [e2, Bool.false_and] at q
        exact q
      · have e1 : n ∈ ks := by simpa using e
        refine ⟨_, rfl, rfl, fun x hx => ?_⟩
        rw [take_more hn] at hx
        rcases List.mem_append.mp hx with hx | hx
        · exact hall x hx
        · have e2 : x = n := List.mem_singleton.mp hx
          subst e2
          exact e1
    · rintro σ H' ⟨v, rfl, rfl, hall⟩
      rw [List.length_map, List.take_length] at hall
      have e2 : (r.all fun x => decide (x ∈ ks)) = true := by
        rw [List.all_eq_true]
        exact fun x hx => decide_eq_true (hall x hx)
      rw [e2, Bool.true_and] at q
      refine ⟨_, rfl, a, r, rfl, hA, _, rfl, rfl, ?_⟩
      have e3 : decide (V.int r.sum = V.int z) = decide (r.sum = z) := by
        by_cases h : r.sum = z
        · rw [h]
          simp
        · rw [decide_eq_false h, decide_eq_false (fun e => h (V.int.inj e))]
      rw [e3]
      exact q
/-! ### is_length -/
def sp_is_length : Sp := fun vs H Q _ => ∃ z : Int, vs = [.int z] ∧ Q (.bl (SrCommon.inRange z 1 9)) H
theorem ok_is_length (T : Txt K mg A) : Df P w K mg base 1 A.f_is_length ["number"] sp_is_length := by
  refine Df.of T.F_is_length sc_is_length (fun vs H Q E h => ?_) (fun cdv Ar outer s H vs Q E hr h => ?_)
  · obtain ⟨z, rfl, _⟩ := h
    rfl
  · obtain ⟨z, rfl, q⟩ := h
    refine ⟨_, (pss_one (ps_ret (pe_chain op_le op_le pe_int (pv 0) (pe_cst (by rfl) T.c_GREATEST_LENGTH)))), ?_⟩
    unfold SrCommon.inRange at q
    refine ⟨_, rfl, _, _, rfl, rfl, _, rfl, ite2 (fun e => ?_) (fun e => ?_)⟩
    · rw [e, Bool.true_and] at q
      exact ⟨_, _, rfl, rfl, q⟩
    · rw [Bool.eq_false_iff.mpr e, Bool.false_and] at q
      exact q
/-! ### counted -/
def sp_counted : Sp := fun vs H Q _ => ∃ (a : Addr) (xs : List V), vs = [.ref a] ∧ H a = some (.lst xs) ∧ xs.length ≤ 1000 ∧ ∀ H' p, Same H H' → H p = none → H' p = some (.lst (.int (xs.length : Int) :: xs)) → Q (.ref p) H'
theorem ok_counted (T : Txt K mg A) : Df P w K mg base 1 A.f_counted ["numbers"] sp_counted := by
  refine Df.of T.F_counted sc_counted (fun vs H Q E h => ?_) (fun cdv Ar outer s H vs Q E hr h => ?_)
  · obtain ⟨a, xs, rfl, _⟩ := h
    rfl
  · obtain ⟨a, xs, rfl, hA, hl, q⟩ := h
    refine ⟨_, (pss_one (ps_ret (pe_op op_cat (pe_lst (pa_cons (pe_callB call_len_seq (by rfl) T.b_len (by decide +kernel) (pa_cons (pv 0) pa_nil)) pa_nil)) (pv 0)))), ?_⟩
    refine ⟨_, rfl, a, xs, rfl, .inl (sq_of hA), (by show 1 ≤ sizeLine; decide), fun c nc => ⟨_, rfl, c, a, _, xs, rfl, rfl, upd_same, same_new nc _ _ hA, ?_, fun p np => ?_⟩⟩
    · show 1 + xs.length ≤ sizeLine
      exact Nat.le_of_lt (small1000' (by omega))
    · exact q _ p ((same_new nc).trans (same_new np)) (upd_free np).2 upd_same
end
end Jw
namespace Jw
open PySem PySem.Spec PyProof.Rows L2
/-- all that was tracked is as it was, but at a -/
def But (a : Addr) (H H' : Hp) : Prop := ∀ b o, H b = some o → b ≠ a → H' b = some o
theorem But.trans {a : Addr} {H H1 H2 : Hp} (x : But a H H1) (y : But a H1 H2) : But a H H2 := fun b o e n => y b o (x b o e n) n
theorem But.of {a : Addr} {H H1 : Hp} (x : Same H H1) : But a H H1 := fun b o e _ => x b o e
theorem but_upd {a : Addr} {H : Hp} {o : HO} : But a H (upd H a o) := fun b x e n => by
  rw [upd_ne n]
  exact e
/-! ### the reader: the list and the place -/
def rF (c : Addr) (i : Nat) : List (Str × V) := [("calls", .ref c), ("place", .int (i : Int))]
theorem rF_calls (c : Addr) (i : Nat) : (rF c i).lookup ("calls" : Str) = some (.ref c) := lk_here
theorem rF_place (c : Addr) (i : Nat) : (rF c i).lookup ("place" : Str) = some (.int (i : Int)) := (lk_past (by decide +kernel)).trans lk_here
theorem rF_none (c : Addr) (i : Nat) (m : Str) (h1 : (m == ("calls" : Str)) = false) (h2 : (m == ("place" : Str)) = false) : (rF c i).lookup m = none := (lk_past h1).trans ((lk_past h2).trans rfl)
theorem rF_put (c : Addr) (i j : Nat) : putF "place" (.int (j : Int)) (rF c i) = rF c j := (put_past (by decide +kernel)).trans (congrArg _ put_here)
theorem rF_new (c : Addr) : putF "place" (.int 0) (putF "calls" (.ref c) []) = rF c 0 := (put_past (by decide +kernel)).trans rfl
section
variable {P : Program} {w : World} {K : PySem.W.Frag} {mg : Str → Option Value} {base : Heap} {A : Adr}
/-! ### Reader.__init__ -/
def sp_Reader_init (K : PySem.W.Frag) (C : Addr) : Sp := fun vs H Q _ => ∃ (a dx b : Addr) (xs : List V), vs = [.ref a, .ref b] ∧ H a = some (.ins C dx []) ∧ SqL K H b xs ∧
  ∀ H' c, H' a = some (.ins C dx (rF c 0)) → H' c = some (.lst xs) → H c = none → But a H H' → Q .non H'
theorem ok_Reader_init (T : Txt K mg A) : Df P w K mg base 1 A.f_Reader_init ["self", "calls"] (sp_Reader_init K A.c_Reader) := by
  refine Df.of T.F_Reader_init sc_Reader_init (fun vs H Q E h => ?_) (fun cdv Ar outer s H vs Q E hr h => ?_)
  · obtain ⟨a, dx, b, xs, rfl, _⟩ := h
    rfl
  · obtain ⟨a, dx, b, xs, rfl, hA, hB, q⟩ := h
    refine ⟨_, (pss_cons (ps_fld (pv 0) (pe_callTy call_list_of (by rfl) T.b_list (by decide +kernel) (pa_cons (pv 1) pa_nil)) rfl)
      (pss_one (ps_fld (pv 0) pe_int rfl))), ?_⟩
    refine ⟨_, rfl, b, xs, rfl, .inl hB, fun c nc => ?_⟩
    have hca : a ≠ c := ne_of_none hA nc
    refine ⟨_, rfl, a, A.c_Reader, dx, [], rfl, same_new nc _ _ hA, T.cl_Reader, T.n_Reader_calls, (by show 0 < 1000; decide), ?_⟩
    refine ⟨_, rfl, a, A.c_Reader, dx, _, rfl, upd_same, T.cl_Reader, T.n_Reader_place, (by show 1 < 1000; decide), ?_⟩
    refine q _ c ?_ ?_ nc ?_
    · rw [upd_same, rF_new]
    · rw [upd_ne hca.symm, upd_ne hca.symm, upd_same]
    · intro b' o e n
      rw [upd_ne n, upd_ne n]
      exact same_new nc _ _ e
/-! ### Reader.has_more -/
def sp_Reader_has_more (C : Addr) : Sp := fun vs H Q _ => ∃ (a dx c : Addr) (i : Nat) (l : List Int), vs = [.ref a] ∧ H a = some (.ins C dx (rF c i)) ∧ H c = some (.lst (l.map V.int)) ∧ Q (.bl (decide (i < l.length))) H
theorem ok_Reader_has_more (T : Txt K mg A) : Df P w K mg base 1 A.f_Reader_has_more ["self"] (sp_Reader_has_more A.c_Reader) := by
  refine Df.of T.F_Reader_has_more sc_Reader_has_more (fun vs H Q E h => ?_) (fun cdv Ar outer s H vs Q E hr h => ?_)
  · obtain ⟨a, dx, c, i, l, rfl, _⟩ := h
    rfl
  · obtain ⟨a, dx, c, i, l, rfl, hA, hC, q⟩ := h
    refine ⟨_, (pss_one (ps_ret (pe_cmpR op_lt (pe_fld (pv 0) rfl) (pe_callB call_len_seq (by rfl) T.b_len (by decide +kernel) (pa_cons (pe_fld (pv 0) rfl) pa_nil)) (nomark _)))), ?_⟩
    refine ⟨_, rfl, a, A.c_Reader, dx, _, _, rfl, hA, T.cl_Reader, T.n_Reader_place, rF_place c i, _, rfl, a, A.c_Reader, dx, _, _, rfl, hA, T.cl_Reader, T.n_Reader_calls, rF_calls c i, c, _, rfl, .inl (sq_of hC), _, _, rfl, rfl, ?_⟩
    have e : decide ((i : Int) < ((l.map V.int).length : Int)) = decide (i < l.length) := by
      rw [List.length_map]
      by_cases h : i < l.length
      · rw [decide_eq_true h, decide_eq_true (by omega)]
      · rw [decide_eq_false h, decide_eq_false (by omega)]
    show Q (.bl (decide ((i : Int) < ((l.map V.int).length : Int)))) H
    rw [e]
    exact q
/-! ### Reader.number -/
def sp_Reader_number (C : Addr) : Sp := fun vs H Q _ => ∃ (a dx c : Addr) (i : Nat) (l : List Int) (z : Int), vs = [.ref a] ∧ H a = some (.ins C dx (rF c i)) ∧ H c = some (.lst (l.map V.int)) ∧ l[i]? = some z ∧
  Q (.int z) (upd H a (.ins C dx (rF c (i + 1))))
theorem ok_Reader_number (T : Txt K mg A) : Df P w K mg base 1 A.f_Reader_number ["self"] (sp_Reader_number A.c_Reader) := by
  refine Df.of T.F_Reader_number sc_Reader_number (fun vs H Q E h => ?_) (fun cdv Ar outer s H vs Q E hr h => ?_)
  · obtain ⟨a, dx, c, i, l, z, rfl, _⟩ := h
    rfl
  · obtain ⟨a, dx, c, i, l, z, rfl, hA, hC, hz, q⟩ := h
    refine ⟨_, (pss_cons (ps_set (i := 1) sc_Reader_number.nd rfl (Or.inl rfl) (pe_ix (r := rIxL K) ix_list (pe_fld (pv 0) rfl) (pe_fld (pv 0) rfl) (fun _ _ => rfl)))
      (pss_cons (ps_fld (pv 0) (pe_op op_add (pe_fld (pv 0) rfl) pe_int) rfl)
      (pss_one (ps_ret (pv 1))))), ?_⟩
    refine ⟨_, rfl, a, A.c_Reader, dx, _, _, rfl, hA, T.cl_Reader, T.n_Reader_calls, rF_calls c i, _, rfl, a, A.c_Reader, dx, _, _, rfl, hA, T.cl_Reader, T.n_Reader_place, rF_place c i, c, _, _, _, rfl, rfl, sq_of hC, atI_nat (int_at hz), ?_⟩
    refine ⟨_, rfl, a, A.c_Reader, dx, _, _, rfl, hA, T.cl_Reader, T.n_Reader_place, rF_place c i, _, _, rfl, rfl, _, rfl, a, A.c_Reader, dx, _, rfl, hA, T.cl_Reader, T.n_Reader_place, (by show 2 < 1000; decide), ?_⟩
    refine ⟨_, rfl, ?_⟩
    show Q (.int z) (upd H a (.ins A.c_Reader dx (putF "place" (.int ((i : Int) + 1)) (rF c i))))
    rw [show ((i : Int) + 1) = ((i + 1 : Nat) : Int) by omega, rF_put]
    exact q
/-! ### Reader.number_list -/
theorem cut_seg (l : List Int) (i n : Nat) (h : i + n ≤ l.length) : cutV (l.map V.int) (some (i : Int)) (some ((i : Int) + (n : Int))) = ((l.drop i).take n).map V.int := by
  unfold cutV
  rw [show ((i : Int) + (n : Int)) = ((i + n : Nat) : Int) by omega, HT.sIx_nat, HT.sIx_nat, List.length_map, Nat.min_eq_left h, Nat.min_eq_left (show i ≤ l.length by omega), List.map_take, List.map_drop, Nat.add_sub_cancel_left]
def sp_Reader_number_list (C : Addr) : Sp := fun vs H Q _ => ∃ (a dx c : Addr) (i n : Nat) (l : List Int), vs = [.ref a] ∧ H a = some (.ins C dx (rF c i)) ∧ H c = some (.lst (l.map V.int)) ∧ l[i]? = some (n : Int) ∧ i + 1 + n ≤ l.length ∧
  ∀ H' p, H p = none → H' p = some (.lst (((l.drop (i + 1)).take n).map V.int)) → H' a = some (.ins C dx (rF c (i + 1 + n))) → But a H H' → Q (.ref p) H'
theorem ok_Reader_number_list (T : Txt K mg A) (D_Reader_number : Df P w K mg base 1 A.f_Reader_number ["self"] (sp_Reader_number A.c_Reader)) : Df P w K mg base 2 A.f_Reader_number_list ["self"] (sp_Reader_number_list A.c_Reader) := by
  refine Df.of T.F_Reader_number_list sc_Reader_number_list (fun vs H Q E h => ?_) (fun cdv Ar outer s H vs Q E hr h => ?_)
  · obtain ⟨a, dx, c, i, n, l, rfl, _⟩ := h
    rfl
  · obtain ⟨a, dx, c, i, n, l, rfl, hA, hC, hz, hl, q⟩ := h
    refine ⟨_, (pss_cons (ps_set (i := 1) sc_Reader_number_list.nd rfl (Or.inl rfl) (pe_mth0 (pv 0) T.cl_Reader T.m_Reader_number D_Reader_number (hr.mono (by decide))))
      (pss_cons (ps_set (i := 2) sc_Reader_number_list.nd rfl (Or.inl rfl) (pe_slice sl_list (pe_fld (pv 0) rfl) (po_some (pe_fld (pv 0) rfl)) (po_some (pe_op op_add (pe_fld (pv 0) rfl) (pv 1)))))
      (pss_cons (ps_fld (pv 0) (pe_op op_add (pe_fld (pv 0) rfl) (pv 1)) rfl)
      (pss_one (ps_ret (pv 2)))))), ?_⟩
    have hca : c ≠ a := ne_of hC hA (by intro z; cases z)
    refine ⟨_, rfl, a, dx, _, rfl, hA, rF_none c i _ (by decide +kernel) (by decide +kernel), a, dx, c, i, l, (n : Int), rfl, hA, hC, hz, ?_⟩
    have hA1 : (upd H a (.ins A.c_Reader dx (rF c (i + 1)))) a = some (.ins A.c_Reader dx (rF c (i + 1))) := upd_same
    have hC1 : (upd H a (.ins A.c_Reader dx (rF c (i + 1)))) c = some (.lst (l.map V.int)) := by
      rw [upd_ne hca]
      exact hC
    refine ⟨_, rfl, a, A.c_Reader, dx, _, _, rfl, hA1, T.cl_Reader, T.n_Reader_calls, rF_calls c (i + 1), _, rfl, a, A.c_Reader, dx, _, _, rfl, hA1, T.cl_Reader, T.n_Reader_place, rF_place c (i + 1), _, rfl, ?_⟩
    refine ⟨_, rfl, a, A.c_Reader, dx, _, _, rfl, hA1, T.cl_Reader, T.n_Reader_place, rF_place c (i + 1), _, rfl, _, _, rfl, rfl, _, rfl, c, _, rfl, sq_of hC1, fun p np => ?_⟩
    obtain ⟨hpa, np'⟩ := upd_free np
    rw [cut_seg l (i + 1) n hl]
    have hA2 := same_new (o := .lst (((l.drop (i + 1)).take n).map V.int)) np _ _ hA1
    refine ⟨_, rfl, a, A.c_Reader, dx, _, _, rfl, hA2, T.cl_Reader, T.n_Reader_place, rF_place c (i + 1), _, rfl, _, _, rfl, rfl, _, rfl, a, A.c_Reader, dx, _, rfl, hA2, T.cl_Reader, T.n_Reader_place, (by show 2 < 1000; decide), ?_⟩
    refine ⟨_, rfl, ?_⟩
    show Q (.ref p) (upd _ a (.ins A.c_Reader dx (putF "place" (.int (((i + 1 : Nat) : Int) + (n : Int))) (rF c (i + 1)))))
    rw [show (((i + 1 : Nat) : Int) + (n : Int)) = ((i + 1 + n : Nat) : Int) by omega, rF_put]
    refine q _ p np' ?_ upd_same ?_
    · rw [upd_ne hpa, upd_same]
    · intro b o e hb
      rw [upd_ne hb]
      exact same_new np _ _ (by rw [upd_ne hb]; exact e)
/-! ### Reader.parts -/
def tab : List (List Int) := [[1, 0], [1, 0], [1, 0], [1, 0], [0, 0], [1, 0], [1, 0], [1, 0], [0, 2], [1, 0], [1, 0], [1, 0], [0, 0], [1, 0], [0, 0], [0, 1], [0, 0]]
theorem shape_all : ∀ j : Fin 17, (PySr112.shape (j.val : Int)).map (fun q => [(q.1 : Int), (q.2 : Int)]) = tab[j.val]? := by decide +kernel
theorem shape_tab {p : Int} {n k : Nat} (h : PySr112.shape p = some (n, k)) : ∃ j : Nat, p = (j : Int) ∧ tab[j]? = some [(n : Int), (k : Int)] := by
  have hp : 0 ≤ p ∧ p < 17 := by
    apply Classical.byContradiction
    intro hp
    unfold PySr112.shape at h
    rw [if_neg (by omega), if_neg (by omega), if_neg (by omega), if_neg (by omega), if_neg (by omega), if_neg (by omega), if_neg (by omega), if_neg (by omega), if_neg (by omega), if_neg (by omega), if_neg (by omega), if_neg (by omega), if_neg (by omega), if_neg (by omega), if_neg (by omega), if_neg (by omega), if_neg (by omega)] at h
    cases h
  obtain ⟨j, rfl⟩ : ∃ j : Nat, p = (j : Int) := ⟨p.toNat, by omega⟩
  have := shape_all ⟨j, by omega⟩
  simp only at this
  rw [h] at this
  exact ⟨j, rfl, this.symm⟩
theorem drop_get {l r : List Int} {j : Nat} {z : Int} (h : l.drop j = z :: r) : l[j]? = some z ∧ l.drop (j + 1) = r ∧ j + 1 + r.length = l.length := by
  have h1 : (l.drop j)[0]? = some z := by
    rw [h]
    rfl
  rw [List.getElem?_drop] at h1
  refine ⟨by simpa using h1, ?_, ?_⟩
  · rw [← List.drop_drop, h]
    rfl
  · have := congrArg List.length h
    rw [List.length_drop, List.length_cons] at this
    have hlt := lt_of_get h1
    omega
/-- the lists that were taken -/
def ListsA (H : Hp) (no : List Addr) (as : List Addr) (xs : List (List Int)) : Prop := Paired (fun a x => H a = some (.lst (x.map V.int)) ∧ a ∉ no) as xs
theorem ListsA.but {H H' : Hp} {no as : List Addr} {xs : List (List Int)} (h : ListsA H no as xs) (s : ∀ b o, H b = some o → b ∉ no → H' b = some o) : ListsA H' no as xs := Paired.mapP h fun a x e => ⟨s _ _ e.1 e.2, e.2⟩
def sp_Reader_parts (C : Addr) : Sp := fun vs H Q _ => ∃ (a dx c : Addr) (i n k : Nat) (l : List Int) (p : Int) (xs : List (List Int)) (t : List Int), vs = [.ref a, .int p] ∧ H a = some (.ins C dx (rF c i)) ∧ H c = some (.lst (l.map V.int)) ∧
  PySr112.shape p = some (n, k) ∧ i + n ≤ l.length ∧ PyFlat.rows k ((l.drop i).drop n) = some (xs, t) ∧ n ≤ 100 ∧ k ≤ 100 ∧
  ∀ H' q as j, H q = none → H' q = some (.lst (((l.drop i).take n).map V.int ++ as.map V.ref)) → ListsA H' [q, a] as xs → H' a = some (.ins C dx (rF c j)) → l.drop j = t → i + n ≤ j → j ≤ l.length → But a H H' → Q (.ref q) H'
theorem ok_Reader_parts (T : Txt K mg A) (D_Reader_number : Df P w K mg base 1 A.f_Reader_number ["self"] (sp_Reader_number A.c_Reader)) (D_Reader_number_list : Df P w K mg base 2 A.f_Reader_number_list ["self"] (sp_Reader_number_list A.c_Reader)) :
    Df P w K mg base 3 A.f_Reader_parts ["self", "operation"] (sp_Reader_parts A.c_Reader) := by
  refine Df.of T.F_Reader_parts sc_Reader_parts (fun vs H Q E h => ?_) (fun cdv Ar outer s H vs Q E hr h => ?_)
  · obtain ⟨a, dx, c, i, n, k, l, p, xs, t, rfl, _⟩ := h
    rfl
  · obtain ⟨a, dx, c, i, n, k, l, p, xs, t, rfl, hA, hC, hs, hin, hrows, hn, hk, q⟩ := h
    refine ⟨_, (pss_cons (ps_set (i := 2) sc_Reader_parts.nd rfl (Or.inl rfl) (pe_ix (r := rIxT K) ix_tup (pe_glob (v := .ref A.t_SHAPES) (by rfl) T.c_SHAPES rfl) (pv 1) (fun _ _ => rfl)))
      (pss_cons (ps_set (i := 3) sc_Reader_parts.nd rfl (Or.inl rfl) (pe_lst pa_nil))
      (pss_cons (ps_for PassesOwn.never rfl (pi_range1 (by rfl) T.b_range (pa_cons (pe_ix (r := rIxT K) ix_tup (pv 2) pe_int (fun _ _ => rfl)) pa_nil)) (pg_name (i := 4) sc_Reader_parts.nd rfl (Or.inl rfl))
      (pss_one (ps_expr (pe_bm PySem.F.plainAttrs_list PySem.F.slot_list_append PySem.F.type_list_append mt_append (pv 3) (pa_cons (pe_mth0 (pv 0) T.cl_Reader T.m_Reader_number D_Reader_number (hr.mono (by decide))) pa_nil)))))
      (pss_cons (ps_for PassesOwn.never rfl (pi_range1 (by rfl) T.b_range (pa_cons (pe_ix (r := rIxT K) ix_tup (pv 2) pe_int (fun _ _ => rfl)) pa_nil)) (pg_name (i := 4) sc_Reader_parts.nd rfl (Or.inl rfl))
      (pss_one (ps_expr (pe_bm PySem.F.plainAttrs_list PySem.F.slot_list_append PySem.F.type_list_append mt_append (pv 3) (pa_cons (pe_mth0 (pv 0) T.cl_Reader T.m_Reader_number_list D_Reader_number_list (hr.mono (by decide))) pa_nil)))))
      (pss_one (ps_ret (pv 3))))))), ?_⟩
    obtain ⟨pj, rfl, htab⟩ := shape_tab hs
    have hca : c ≠ a := ne_of hC hA (by intro z; cases z)
    -- shape = SHAPES[operation]
    obtain ⟨ts, hT, htl, hts⟩ := T.t_SHAPES
    have htj : pj < ts.length := by
      rw [htl]
      exact lt_of_get htab
    have hst : ∀ H : Hp, SqT K H ts[pj] [.int (n : Int), .int (k : Int)] := hts pj _ _ (List.getElem?_eq_getElem htj) htab
    refine ⟨_, rfl, A.t_SHAPES, ts.map V.ref, _, .ref ts[pj], rfl, rfl, hT _, atI_nat (by rw [List.getElem?_map, List.getElem?_eq_getElem htj]; rfl), ?_⟩
    -- taken = []
    refine ⟨Nat.zero_le _, fun o no => ?_⟩
    have hao : a ≠ o := ne_of_none hA no
    have hco : c ≠ o := ne_of_none hC no
    -- for turn in range(shape[0])
    refine ⟨_, rfl, ts[pj], _, 0, .int (n : Int), rfl, rfl, hst _, atI_nat (j := 0) rfl, (n : Int), rfl, by omega, by omega,
      for_range (lo := 0) (n := ((n : Int)).toNat) (fun m σ H' => ∃ v : Option V, σ = [some (.ref a), some (.int (pj : Int)), some (.ref ts[pj]), some (.ref o), v] ∧ But a H H' ∧ H' a = some (.ins A.c_Reader dx (rF c (i + m))) ∧ H' o = some (.lst (((l.drop i).take m).map V.int)))
      ⟨none, rfl, But.of (same_new no), ?_, upd_same⟩ ?_ ?_⟩
    · rw [upd_ne hao]
      exact hA
    · rintro m σ H' hm ⟨v, rfl, b1, hA1, hO1⟩
      have hC1 := b1 _ _ hC hca
      have hml : i + m < l.length := by omega
      have hz : l[i + m]? = some l[i + m] := List.getElem?_eq_getElem hml
      refine ⟨_, rfl, .inl ⟨rfl, _, sq_of hO1⟩, _, rfl, a, dx, _, rfl, hA1, rF_none c _ _ (by decide +kernel) (by decide +kernel), a, dx, c, i + m, l, l[i + m], rfl, hA1, hC1, hz, ?_⟩
      refine ⟨o, _, _, rfl, rfl, by rw [upd_ne hao.symm]; exact hO1, ?_, ?_⟩
      · rw [List.length_map, List.length_take]
        exact small1000 (by omega)
      · refine ⟨_, rfl, fun b x e nb => ?_, ?_, ?_⟩
        · rw [upd_ne (ne_of_none e no), upd_ne nb]
          exact b1 _ _ e nb
        · rw [upd_ne hao, upd_same]
          rfl
        · rw [upd_same]
          have hz2 : (l.drop i)[m]? = some l[i + m] := by
            rw [List.getElem?_drop]
            exact hz
          rw [take_more hz2, List.map_append]
          rfl
    · rintro σ H' ⟨v, rfl, b1, hA1, hO1⟩
      rw [Int.toNat_natCast] at hA1 hO1
      -- for turn in range(shape[1])
      refine ⟨_, rfl, ts[pj], _, 1, .int (k : Int), rfl, rfl, hst _, atI_nat (j := 1) rfl, (k : Int), rfl, by omega, by omega,
        for_range (lo := 0) (n := ((k : Int)).toNat) (fun m σ H' => ∃ (v : Option V) (as : List Addr) (xs1 xs2 : List (List Int)) (j : Nat), σ = [some (.ref a), some (.int (pj : Int)), some (.ref ts[pj]), some (.ref o), v] ∧ But a H H' ∧ H' a = some (.ins A.c_Reader dx (rF c j)) ∧
          H' o = some (.lst (((l.drop i).take n).map V.int ++ as.map V.ref)) ∧ ListsA H' [o, a] as xs1 ∧ xs1.length = m ∧ xs = xs1 ++ xs2 ∧ PyFlat.rows (k - m) (l.drop j) = some (xs2, t) ∧ i + n ≤ j ∧ j ≤ l.length)
        ⟨v, [], [], xs, i + n, rfl, b1, hA1, by simpa using hO1, .nil, rfl, rfl, by rw [List.drop_drop] at hrows; exact hrows, Nat.le_refl _, hin⟩ ?_ ?_⟩
      · rintro m σ H' hm ⟨v, as, xs1, xs2, j, rfl, b2, hA2, hO2, hL2, hx1, hx, hrw, hj1, hj2⟩
        have hC2 := b2 _ _ hC hca
        obtain ⟨d, hd⟩ : ∃ d, k - m = d + 1 := ⟨k - m - 1, by omega⟩
        rw [hd] at hrw
        -- one row
        obtain ⟨x, s2, ys, e1, e2, rfl⟩ : ∃ x s2 ys, PyFlat.row (l.drop j) = some (x, s2) ∧ PyFlat.rows d s2 = some (ys, t) ∧ xs2 = x :: ys := by
          unfold PyFlat.rows at hrw
          cases e : PyFlat.row (l.drop j) with
          | none =>
            rw [e] at hrw
            cases hrw
          | some w =>
            rw [e] at hrw
            obtain ⟨x, s2⟩ := w
            simp only at hrw
            cases e' : PyFlat.rows d s2 with
            | none =>
              rw [e'] at hrw
              cases hrw
            | some w' =>
              rw [e'] at hrw
              obtain ⟨ys, t'⟩ := w'
              cases hrw
              exact ⟨x, s2, ys, rfl, e', rfl⟩
        obtain ⟨z, r, hzr, hz0, hzl, rfl, rfl⟩ : ∃ (z : Int) (r : List Int), l.drop j = z :: r ∧ 0 ≤ z ∧ z.toNat ≤ r.length ∧ x = r.take z.toNat ∧ s2 = r.drop z.toNat := by
          cases e : l.drop j with
          | nil =>
            rw [e] at e1
            cases e1
          | cons z r =>
            rw [e] at e1
            have e1' : (if 0 ≤ z ∧ z.toNat ≤ r.length then some (r.take z.toNat, r.drop z.toNat) else none) = some (x, s2) := e1
            by_cases hc : 0 ≤ z ∧ z.toNat ≤ r.length
            · rw [if_pos hc] at e1'
              cases e1'
              exact ⟨z, r, rfl, hc.1, hc.2, rfl, rfl⟩
            · rw [if_neg hc] at e1'
              cases e1'
        obtain ⟨g1, g2, g3⟩ := drop_get hzr
        have hzn : ((z.toNat : Nat) : Int) = z := by omega
        refine ⟨_, rfl, .inl ⟨rfl, _, sq_of hO2⟩, _, rfl, a, dx, _, rfl, hA2, rF_none c _ _ (by decide +kernel) (by decide +kernel), a, dx, c, j, z.toNat, l, rfl, hA2, hC2, by rw [hzn]; exact g1, by omega, fun H3 p np hp hA3 b3 => ?_⟩
        have hpo : p ≠ o := fun e => by
          rw [e, hO2] at np
          cases np
        have hpa : p ≠ a := fun e => by
          rw [e, hA2] at np
          cases np
        have hO3 := b3 _ _ hO2 hao.symm
        refine ⟨o, _, .ref p, rfl, rfl, hO3, ?_, ?_⟩
        · have hl := Paired.length hL2
          rw [List.length_append, List.length_map, List.length_map, List.length_take]
          exact small1000 (by omega)
        · rw [g2] at hp
          refine ⟨_, as ++ [p], xs1 ++ [r.take z.toNat], ys, j + 1 + z.toNat, rfl, fun b x e nb => ?_, ?_, ?_, ?_, ?_, ?_, ?_, by omega, by omega⟩
          · rw [upd_ne (ne_of_none e no)]
            exact b3 _ _ (b2 _ _ e nb) nb
          · rw [upd_ne hao]
            exact hA3
          · rw [upd_same, List.map_append, List.append_assoc]
            rfl
          · refine Paired.snoc (hL2.but fun b x e nb => ?_) ⟨?_, ?_⟩
            · have n1 : b ≠ o := fun z => nb (by rw [z]; exact List.mem_cons_self ..)
              have n2 : b ≠ a := fun z => nb (by rw [z]; exact List.mem_cons_of_mem _ (List.mem_cons_self ..))
              rw [upd_ne n1]
              exact b3 _ _ e n2
            · rw [upd_ne hpo]
              exact hp
            · intro hm
              rcases List.mem_cons.mp hm with e | hm
              · exact hpo e
              · exact hpa (List.mem_singleton.mp hm)
          · rw [List.length_append, hx1]
            rfl
          · rw [List.append_assoc]
            exact hx
          · have hd2 : k - (m + 1) = d := by omega
            rw [hd2, ← List.drop_drop, g2]
            exact e2
      · rintro σ H' ⟨v, as, xs1, xs2, j, rfl, b2, hA2, hO2, hL2, hx1, hx, hrw, hj1, hj2⟩
        rw [Int.toNat_natCast, Nat.sub_self] at hrw
        obtain ⟨rfl, htj⟩ : xs2 = [] ∧ l.drop j = t := by
          cases hrw
          exact ⟨rfl, rfl⟩
        rw [List.append_nil] at hx
        subst hx
        exact ⟨_, rfl, q H' o as j no hO2 hL2 hA2 htj hj1 hj2 b2⟩
end
end Jw
namespace Jw
open PySem PySem.Spec PyProof.Rows L2
/-! ### the instance -/
def mF (z : Nat) (s : Addr) : List (Str × V) := [("length", .int (z : Int)), ("stone_lengths", .ref s)]
theorem mF_length (z : Nat) (s : Addr) : (mF z s).lookup ("length" : Str) = some (.int (z : Int)) := lk_here
theorem mF_stones (z : Nat) (s : Addr) : (mF z s).lookup ("stone_lengths" : Str) = some (.ref s) := (lk_past (by decide +kernel)).trans lk_here
theorem mF_none (z : Nat) (s : Addr) (m : Str) (h1 : (m == ("length" : Str)) = false) (h2 : (m == ("stone_lengths" : Str)) = false) : (mF z s).lookup m = none := (lk_past h1).trans ((lk_past h2).trans rfl)
theorem mF_putL (z y : Nat) (s : Addr) : putF "length" (.int (y : Int)) (mF z s) = mF y s := put_here
theorem mF_putS (z : Nat) (s t : Addr) : putF "stone_lengths" (.ref t) (mF z s) = mF z t := (put_past (by decide +kernel)).trans (congrArg _ put_here)
theorem mF_new (z : Nat) (s : Addr) : putF "stone_lengths" (.ref s) (putF "length" (.int (z : Int)) []) = mF z s := (put_past (by decide +kernel)).trans rfl
def MsAt (H : Hp) (C a dx s : Addr) (w : Sr112.Wall) : Prop := H a = some (.ins C dx (mF w.length s)) ∧ H s = some (.lst (nv w.stoneLengths))
theorem MsAt.mono {H H' : Hp} {C a dx s : Addr} {w : Sr112.Wall} (x : Same H H') (h : MsAt H C a dx s w) : MsAt H' C a dx s w := ⟨x _ _ h.1, x _ _ h.2⟩
theorem Good.stones {w : Sr112.Wall} (g : Good w) : Stones w.stoneLengths := ⟨g.n4, g.ge⟩
theorem Good.row_sum {w : Sr112.Wall} (g : Good w) {r : List Nat} (h : r ∈ Sr112.rows w) : r.sum ≤ 9 := by
  have h1 := ((g.mem r).mp h).2
  have h2 := g.l9
  omega
/-- what the specification answers -/
def resOf (w : Sr112.Wall) (c : Sr112.Call) : List Int := (Sr112.perform w c).2.code :: (Sr112.perform w c).2.values
/-- a query's promise: the instance is as it was, the answer is new -/
def QA (C : Addr) (w : Sr112.Wall) (c : Sr112.Call) (a : Addr) (H : Hp) (Q : VK) : Prop := (∃ dx s, MsAt H C a dx s w) ∧ Good w ∧ ∀ H' p, Same H H' → H p = none → H' p = some (.lst ((resOf w c).map V.int)) → Q (.ref p) H'
theorem row_at {w : Sr112.Wall} {i : Int} {r : List Nat} (h0 : 0 ≤ i) (h : (Sr112.rows w)[i.toNat]? = some r) : Sr112.rowAt w i = some r := by
  unfold Sr112.rowAt
  rw [if_neg (by omega)]
  exact h
theorem row_none {w : Sr112.Wall} {i : Int} (h : ¬ (0 ≤ i ∧ i < ((Sr112.rows w).length : Int))) : Sr112.rowAt w i = none := by
  unfold Sr112.rowAt
  by_cases h0 : i < 0
  · rw [if_pos h0]
  · rw [if_neg h0, List.getElem?_eq_none_iff]
    omega
theorem refs_get {as : List Addr} {i : Nat} {x : V} (h : (as.map V.ref)[i]? = some x) : ∃ a, as[i]? = some a ∧ x = V.ref a := by
  rw [List.getElem?_map] at h
  cases e : as[i]? with
  | none =>
    rw [e] at h
    cases h
  | some n =>
    rw [e] at h
    exact ⟨n, rfl, (Option.some.inj h).symm⟩
theorem refs_at {as : List Addr} {i : Nat} {a : Addr} (h : as[i]? = some a) : (as.map V.ref)[i]? = some (V.ref a) := by
  rw [List.getElem?_map, h]
  rfl
/-- the row with a number, in the heap -/
theorem RowsL.get {H : Hp} {p : Addr} {w : Sr112.Wall} {as : List Addr} {i : Int} (hR : RowsA H as (Sr112.rows w)) (h0 : 0 ≤ i) (h1 : i < (as.length : Int)) :
    ∃ a r, as[i.toNat]? = some a ∧ (Sr112.rows w)[i.toNat]? = some r ∧ H a = some (.lst (nv r)) ∧ r ∈ Sr112.rows w := by
  have hl := Paired.length hR
  have hlt : i.toNat < as.length := by omega
  obtain ⟨r, h2, h3⟩ := paired_get' hR (List.getElem?_eq_getElem hlt)
  exact ⟨_, r, List.getElem?_eq_getElem hlt, h2, h3, List.mem_of_getElem? h2⟩
section
variable {P : Program} {w : World} {K : PySem.W.Frag} {mg : Str → Option Value} {base : Heap} {A : Adr}
/-! ### Masonry.__init__ -/
def sp_Masonry_init (C : Addr) : Sp := fun vs H Q _ => ∃ (a dx : Addr) (z : Nat), vs = [.ref a, .int (z : Int)] ∧ H a = some (.ins C dx []) ∧
  ∀ H' s, H' a = some (.ins C dx (mF z s)) → H' s = some (.lst []) → H s = none → But a H H' → Q .non H'
theorem ok_Masonry_init (T : Txt K mg A) : Df P w K mg base 1 A.f_Masonry_init ["self", "length"] (sp_Masonry_init A.c_Masonry) := by
  refine Df.of T.F_Masonry_init sc_Masonry_init (fun vs H Q E h => ?_) (fun cdv Ar outer s H vs Q E hr h => ?_)
  · obtain ⟨a, dx, z, rfl, _⟩ := h
    rfl
  · obtain ⟨a, dx, z, rfl, hA, q⟩ := h
    refine ⟨_, (pss_cons (ps_fld (pv 0) (pv 1) rfl)
      (pss_one (ps_fld (pv 0) (pe_lst pa_nil) rfl))), ?_⟩
    refine ⟨_, rfl, _, rfl, a, A.c_Masonry, dx, [], rfl, hA, T.cl_Masonry, T.n_Masonry_length, (by show 0 < 1000; decide), ?_⟩
    refine ⟨Nat.zero_le _, fun c nc => ?_⟩
    obtain ⟨hca, nc'⟩ := upd_free nc
    refine ⟨_, rfl, a, A.c_Masonry, dx, _, rfl, same_new nc _ _ upd_same, T.cl_Masonry, T.n_Masonry_stone_lengths, (by show 1 < 1000; decide), ?_⟩
    refine q _ c ?_ ?_ nc' ?_
    · rw [upd_same, mF_new]
    · rw [upd_ne hca, upd_same]
    · intro b' o e n
      rw [upd_ne n, upd_ne (ne_of_none e nc'), upd_ne n]
      exact e
/-! ### Masonry.rows -/
def sp_Masonry_rows (C : Addr) : Sp := fun vs H Q _ => ∃ (a dx s : Addr) (w : Sr112.Wall), vs = [.ref a] ∧ MsAt H C a dx s w ∧ Good w ∧ ∀ H' p, Same H H' → RowsL H' p (Sr112.rows w) → Q (.ref p) H'
theorem ok_Masonry_rows (T : Txt K mg A) (D_rows_of : Df P w K mg base 2 A.f_rows_of ["length", "stone_lengths"] (sp_rows_of K)) : Df P w K mg base 3 A.f_Masonry_rows ["self"] (sp_Masonry_rows A.c_Masonry) := by
  refine Df.of T.F_Masonry_rows sc_Masonry_rows (fun vs H Q E h => ?_) (fun cdv Ar outer s H vs Q E hr h => ?_)
  · obtain ⟨a, dx, s, w, rfl, _⟩ := h
    rfl
  · obtain ⟨a, dx, st, w, rfl, hA, g, q⟩ := h
    refine ⟨_, (pss_one (ps_ret (pe_cal D_rows_of (hr.mono (by decide)) (by rfl) T.g_rows_of (pa_cons (pe_fld (pv 0) rfl) (pa_cons (pe_fld (pv 0) rfl) pa_nil))))), ?_⟩
    refine ⟨_, rfl, a, A.c_Masonry, dx, _, _, rfl, hA.1, T.cl_Masonry, T.n_Masonry_length, mF_length _ _, _, rfl, a, A.c_Masonry, dx, _, _, rfl, hA.1, T.cl_Masonry, T.n_Masonry_stone_lengths, mF_stones _ _,
      w.length, st, w.stoneLengths, rfl, sq_of hA.2, g.stones, g.l9, fun H1 p s1 hR => q H1 p s1 hR⟩
/-! ### Masonry.row_count -/
def sp_Masonry_row_count (C : Addr) : Sp := fun vs H Q _ => ∃ (a : Addr) (w : Sr112.Wall), vs = [.ref a] ∧ QA C w .rowCount a H Q
theorem ok_Masonry_row_count (T : Txt K mg A) (D_Masonry_rows : Df P w K mg base 3 A.f_Masonry_rows ["self"] (sp_Masonry_rows A.c_Masonry)) : Df P w K mg base 4 A.f_Masonry_row_count ["self"] (sp_Masonry_row_count A.c_Masonry) := by
  refine Df.of T.F_Masonry_row_count sc_Masonry_row_count (fun vs H Q E h => ?_) (fun cdv Ar outer s H vs Q E hr h => ?_)
  · obtain ⟨a, w, rfl, _⟩ := h
    rfl
  · obtain ⟨a, w, rfl, ⟨dx, st, hA⟩, g, q⟩ := h
    refine ⟨_, (pss_one (ps_ret (pe_lst (pa_cons (pe_callB call_len_seq (by rfl) T.b_len (by decide +kernel) (pa_cons (pe_mth0 (pv 0) T.cl_Masonry T.m_Masonry_rows D_Masonry_rows (hr.mono (by decide))) pa_nil)) pa_nil)))), ?_⟩
    refine ⟨_, rfl, a, dx, _, rfl, hA.1, mF_none _ _ _ (by decide +kernel) (by decide +kernel), a, dx, st, w, rfl, hA, g, fun H1 p s1 hR => ?_⟩
    obtain ⟨as, hp, hR⟩ := hR
    have hl := Paired.length hR
    refine ⟨p, _, rfl, .inl (sq_of hp), (by show 1 ≤ sizeLine; decide), fun c nc => ?_⟩
    refine q _ c (s1.trans (same_new nc)) (s1.free nc) ?_
    rw [upd_same, List.length_map, hl]
    rfl
/-! ### Masonry.row -/
def sp_Masonry_row (C : Addr) : Sp := fun vs H Q _ => ∃ (a : Addr) (i : Int) (w : Sr112.Wall), vs = [.ref a, .int i] ∧ QA C w (.row i) a H Q
theorem ok_Masonry_row (T : Txt K mg A) (D_Masonry_rows : Df P w K mg base 3 A.f_Masonry_rows ["self"] (sp_Masonry_rows A.c_Masonry)) (D_counted : Df P w K mg base 1 A.f_counted ["numbers"] sp_counted) :
    Df P w K mg base 4 A.f_Masonry_row ["self", "i"] (sp_Masonry_row A.c_Masonry) := by
  refine Df.of T.F_Masonry_row sc_Masonry_row (fun vs H Q E h => ?_) (fun cdv Ar outer s H vs Q E hr h => ?_)
  · obtain ⟨a, i, w, rfl, _⟩ := h
    rfl
  · obtain ⟨a, i, w, rfl, ⟨dx, st, hA⟩, g, q⟩ := h
    refine ⟨_, (pss_cons (ps_set (i := 2) sc_Masonry_row.nd rfl (Or.inl rfl) (pe_mth0 (pv 0) T.cl_Masonry T.m_Masonry_rows D_Masonry_rows (hr.mono (by decide))))
      (pss_cons (ps_if (pt_not (pt_chain op_le op_lt pe_int (pv 1) (pe_callB call_len_seq (by rfl) T.b_len (by decide +kernel) (pa_cons (pv 2) pa_nil))))
      (pss_one (ps_ret (pe_lst (pa_cons (pe_cst (by rfl) T.c_NOT_THERE) pa_nil))))
      pss_nil)
      (pss_one (ps_ret (pe_cal D_counted (hr.mono (by decide)) (by rfl) T.g_counted (pa_cons (pe_ix (r := rIxL K) ix_list (pv 2) (pv 1) (fun _ _ => rfl)) pa_nil)))))), ?_⟩
    refine ⟨_, rfl, a, dx, _, rfl, hA.1, mF_none _ _ _ (by decide +kernel) (by decide +kernel), a, dx, st, w, rfl, hA, g, fun H1 p s1 hR => ?_⟩
    obtain ⟨as, hp, hR⟩ := hR
    have hl := Paired.length hR
    have out : ¬ (0 ≤ i ∧ i < (as.length : Int)) → ∀ c, H1 c = none → Q (.ref c) (upd H1 c (.lst [.int (-2)])) := fun h c nc => by
      refine q _ c (s1.trans (same_new nc)) (s1.free nc) ?_
      have e : resOf w (.row i) = [-2] := by
        unfold resOf Sr112.perform
        simp only [row_none (w := w) (by rw [← hl]; exact h)]
        rfl
      rw [upd_same, e]
      rfl
    -- if not 0 <= i < len(rows)
    refine ⟨_, rfl, _, _, rfl, rfl, _, rfl, ite2 (fun e => ?_) (fun e => ?_)⟩
    · have h0 : 0 ≤ i := of_decide_eq_true e
      refine ⟨_, rfl, p, _, rfl, .inl (sq_of hp), _, _, rfl, rfl, _, rfl, ite2 (fun e1 => ?_) (fun e1 => ?_)⟩
      · have h1 : ¬ i < ((as.map V.ref).length : Int) := by simpa using e1
        rw [List.length_map] at h1
        exact ⟨(by show 1 ≤ sizeLine; decide), fun c nc => out (fun h => h1 h.2) c nc⟩
      · have h1 : i < ((as.map V.ref).length : Int) := by simpa using e1
        rw [List.length_map] at h1
        obtain ⟨b, r, hb, hr2, hrow, hmem⟩ := RowsL.get (p := p) hR h0 h1
        refine ⟨_, rfl, _, rfl, p, _, i, .ref b, rfl, rfl, sq_of hp, ?_, b, nv r, rfl, hrow, ?_, fun H2 c s2 nc hc => ?_⟩
        · have e2 : i = ((i.toNat : Nat) : Int) := by omega
          rw [e2]
          exact atI_nat (refs_at hb)
        · rw [nv_len]
          have := g.row_len hmem
          omega
        · refine q H2 c (s1.trans s2) (s1.free nc) ?_
          rw [hc, nv_len]
          have e2 : resOf w (.row i) = (r.length : Int) :: ni r := by
            unfold resOf Sr112.perform
            simp only [row_at (w := w) h0 hr2]
            rfl
          rw [e2]
          rfl
    · have h0 : ¬ 0 ≤ i := by simpa using e
      refine ⟨_, rfl, ?_⟩
      exact ⟨(by show 1 ≤ sizeLine; decide), fun c nc => out (fun h => h0 h.1) c nc⟩
end
end Jw
namespace Jw
open PySem PySem.Spec PyProof.Rows L2
section
variable {P : Program} {w : World} {K : PySem.W.Frag} {mg : Str → Option Value} {base : Heap} {A : Adr}
/-! ### Masonry.joints -/
def sp_Masonry_joints (C : Addr) : Sp := fun vs H Q _ => ∃ (a : Addr) (i : Int) (w : Sr112.Wall), vs = [.ref a, .int i] ∧ QA C w (.joints i) a H Q
theorem ok_Masonry_joints (T : Txt K mg A) (D_Masonry_rows : Df P w K mg base 3 A.f_Masonry_rows ["self"] (sp_Masonry_rows A.c_Masonry)) (D_counted : Df P w K mg base 1 A.f_counted ["numbers"] sp_counted)
    (D_joints_of : Df P w K mg base 1 A.f_joints_of ["row"] (sp_joints_of K)) : Df P w K mg base 4 A.f_Masonry_joints ["self", "i"] (sp_Masonry_joints A.c_Masonry) := by
  refine Df.of T.F_Masonry_joints sc_Masonry_joints (fun vs H Q E h => ?_) (fun cdv Ar outer s H vs Q E hr h => ?_)
  · obtain ⟨a, i, w, rfl, _⟩ := h
    rfl
  · obtain ⟨a, i, w, rfl, ⟨dx, st, hA⟩, g, q⟩ := h
    refine ⟨_, (pss_cons (ps_set (i := 2) sc_Masonry_joints.nd rfl (Or.inl rfl) (pe_mth0 (pv 0) T.cl_Masonry T.m_Masonry_rows D_Masonry_rows (hr.mono (by decide))))
      (pss_cons (ps_if (pt_not (pt_chain op_le op_lt pe_int (pv 1) (pe_callB call_len_seq (by rfl) T.b_len (by decide +kernel) (pa_cons (pv 2) pa_nil))))
      (pss_one (ps_ret (pe_lst (pa_cons (pe_cst (by rfl) T.c_NOT_THERE) pa_nil))))
      pss_nil)
      (pss_one (ps_ret (pe_cal D_counted (hr.mono (by decide)) (by rfl) T.g_counted (pa_cons (pe_cal D_joints_of (hr.mono (by decide)) (by rfl) T.g_joints_of (pa_cons (pe_ix (r := rIxL K) ix_list (pv 2) (pv 1) (fun _ _ => rfl)) pa_nil)) pa_nil)))))), ?_⟩
    refine ⟨_, rfl, a, dx, _, rfl, hA.1, mF_none _ _ _ (by decide +kernel) (by decide +kernel), a, dx, st, w, rfl, hA, g, fun H1 p s1 hR => ?_⟩
    obtain ⟨as, hp, hR⟩ := hR
    have hl := Paired.length hR
    have out : ¬ (0 ≤ i ∧ i < (as.length : Int)) → ∀ c, H1 c = none → Q (.ref c) (upd H1 c (.lst [.int (-2)])) := fun h c nc => by
      refine q _ c (s1.trans (same_new nc)) (s1.free nc) ?_
      have e : resOf w (.joints i) = [-2] := by
        unfold resOf Sr112.perform
        simp only [row_none (w := w) (by rw [← hl]; exact h)]
        rfl
      rw [upd_same, e]
      rfl
    refine ⟨_, rfl, _, _, rfl, rfl, _, rfl, ite2 (fun e => ?_) (fun e => ?_)⟩
    · have h0 : 0 ≤ i := of_decide_eq_true e
      refine ⟨_, rfl, p, _, rfl, .inl (sq_of hp), _, _, rfl, rfl, _, rfl, ite2 (fun e1 => ?_) (fun e1 => ?_)⟩
      · have h1 : ¬ i < ((as.map V.ref).length : Int) := by simpa using e1
        rw [List.length_map] at h1
        exact ⟨(by show 1 ≤ sizeLine; decide), fun c nc => out (fun h => h1 h.2) c nc⟩
      · have h1 : i < ((as.map V.ref).length : Int) := by simpa using e1
        rw [List.length_map] at h1
        obtain ⟨b, r, hb, hr2, hrow, hmem⟩ := RowsL.get (p := p) hR h0 h1
        have rl := g.row_len hmem
        refine ⟨_, rfl, _, rfl, p, _, i, .ref b, rfl, rfl, sq_of hp, ?_, b, r, rfl, sq_of hrow, by omega, fun H2 c s2 nc hc => ⟨c, _, rfl, hc, ?_, fun H3 d s3 nd hd => ?_⟩⟩
        · have e2 : i = ((i.toNat : Nat) : Int) := by omega
          rw [e2]
          exact atI_nat (refs_at hb)
        · rw [nv_len, joints_len]
          omega
        · refine q H3 d ((s1.trans s2).trans s3) ((s1.trans s2).free nd) ?_
          rw [hd, nv_len]
          have e2 : resOf w (.joints i) = ((Sr112.joints r).length : Int) :: ni (Sr112.joints r) := by
            unfold resOf Sr112.perform
            simp only [row_at (w := w) h0 hr2]
            rfl
          rw [e2]
          rfl
    · have h0 : ¬ 0 ≤ i := by simpa using e
      refine ⟨_, rfl, ?_⟩
      exact ⟨(by show 1 ≤ sizeLine; decide), fun c nc => out (fun h => h0 h.1) c nc⟩
/-! ### Masonry.compatible_count -/
theorem compat_rows_len (w : Sr112.Wall) (r : List Nat) : (Sr112.compatibleRows w r).length = ((Sr112.rows w).filter fun s => Sr112.areCompatible r s).length := by
  unfold Sr112.compatibleRows
  rw [List.length_map]
  have key : ∀ (l : List (List Nat)) (n : Nat), ((l.zipIdx n).filter fun y => Sr112.areCompatible r y.1).length = (l.filter fun s => Sr112.areCompatible r s).length := by
    intro l
    induction l with
    | nil => intro n; rfl
    | cons s t ih =>
      intro n
      rw [List.zipIdx_cons, List.filter_cons, List.filter_cons]
      by_cases h : Sr112.areCompatible r s = true
      · rw [if_pos h, if_pos h, List.length_cons, List.length_cons, ih]
      · rw [if_neg h, if_neg h, ih]
  exact key _ 0
def sp_Masonry_compatible_count (C : Addr) : Sp := fun vs H Q _ => ∃ (a : Addr) (i : Int) (w : Sr112.Wall), vs = [.ref a, .int i] ∧ QA C w (.compatibleCount i) a H Q
theorem ok_Masonry_compatible_count (T : Txt K mg A) (D_Masonry_rows : Df P w K mg base 3 A.f_Masonry_rows ["self"] (sp_Masonry_rows A.c_Masonry))
    (D_is_compatible : Df P w K mg base 3 A.f_is_compatible ["first", "second"] (sp_is_compatible K)) : Df P w K mg base 4 A.f_Masonry_compatible_count ["self", "i"] (sp_Masonry_compatible_count A.c_Masonry) := by
  refine Df.of T.F_Masonry_compatible_count sc_Masonry_compatible_count (fun vs H Q E h => ?_) (fun cdv Ar outer s H vs Q E hr h => ?_)
  · obtain ⟨a, i, w, rfl, _⟩ := h
    rfl
  · obtain ⟨a, i, w, rfl, ⟨dx, st, hA⟩, g, q⟩ := h
    refine ⟨_, (pss_cons (ps_set (i := 2) sc_Masonry_compatible_count.nd rfl (Or.inr rfl) (pe_mth0 (pv 0) T.cl_Masonry T.m_Masonry_rows D_Masonry_rows (hr.mono (by decide))))
      (pss_cons (ps_if (pt_not (pt_chain op_le op_lt pe_int (pv 1) (pe_callB call_len_seq (by rfl) T.b_len (by decide +kernel) (pa_cons (pv 2) pa_nil))))
      (pss_one (ps_ret (pe_lst (pa_cons (pe_cst (by rfl) T.c_NOT_THERE) pa_nil))))
      pss_nil)
      (pss_one (ps_ret (pe_lst (pa_cons (pe_callB call_len_seq (by rfl) T.b_len (by decide +kernel) (pa_cons (pe_lc (own := [("row", 3)]) (g := gName 3) rfl sc_Masonry_compatible_count.nd  (pi_list (pv 2)) (blkOk_by (N := ["self", "i", "rows", "row"]) (sc := defScope s_Masonry_compatible_count) (by decide +kernel)) (fun _ _ _ _ _ => pg_name (i := 3) sc_Masonry_compatible_count.nd rfl (Or.inl rfl)) (fun _ _ _ _ _ => (pts_one (pt_val (pe_cal D_is_compatible (hr.mono (by decide)) (by rfl) T.g_is_compatible (pa_cons (pe_ix (r := rIxL K) ix_list (pv 2) (pv 1) (fun _ _ => rfl)) (pa_cons (pv 3) pa_nil)))))) (fun _ _ _ _ _ => (pv 3))) pa_nil)) pa_nil)))))), ?_⟩
    refine ⟨_, rfl, a, dx, _, rfl, hA.1, mF_none _ _ _ (by decide +kernel) (by decide +kernel), a, dx, st, w, rfl, hA, g, fun H1 p s1 hR => ?_⟩
    obtain ⟨as, hp, hR⟩ := hR
    have hl := Paired.length hR
    have out : ¬ (0 ≤ i ∧ i < (as.length : Int)) → ∀ c, H1 c = none → Q (.ref c) (upd H1 c (.lst [.int (-2)])) := fun h c nc => by
      refine q _ c (s1.trans (same_new nc)) (s1.free nc) ?_
      have e : resOf w (.compatibleCount i) = [-2] := by
        unfold resOf Sr112.perform
        simp only [row_none (w := w) (by rw [← hl]; exact h)]
        rfl
      rw [upd_same, e]
      rfl
    refine ⟨_, rfl, _, _, rfl, rfl, _, rfl, ite2 (fun e => ?_) (fun e => ?_)⟩
    · have h0 : 0 ≤ i := of_decide_eq_true e
      refine ⟨_, rfl, p, _, rfl, .inl (sq_of hp), _, _, rfl, rfl, _, rfl, ite2 (fun e1 => ?_) (fun e1 => ?_)⟩
      · have h1 : ¬ i < ((as.map V.ref).length : Int) := by simpa using e1
        rw [List.length_map] at h1
        exact ⟨(by show 1 ≤ sizeLine; decide), fun c nc => out (fun h => h1 h.2) c nc⟩
      · have h1 : i < ((as.map V.ref).length : Int) := by simpa using e1
        rw [List.length_map] at h1
        obtain ⟨b, r, hb, hr2, hrow, hmem⟩ := RowsL.get (p := p) hR h0 h1
        have rl := g.row_len hmem
        -- [row for row in rows if is_compatible(rows[i], row)]
        refine ⟨_, rfl, p, rfl, ⟨_, sq_of hp⟩, fun D nD => ?_⟩
        refine lc_list (K := K) (a := p) (xs := as.map V.ref) (fun j H' => ∃ H2 ys, Same H1 H2 ∧ H2 D = none ∧ H' = upd H2 D (.lst ys) ∧ ys.length = (((Sr112.rows w).take j).filter fun s => Sr112.areCompatible r s).length)
          ⟨H1, [], Same.refl _, nD, rfl, by simp⟩ (fun j H' hj hp' => ?_) ?_ ?_
        · obtain ⟨H2, ys, s2, n2, rfl, _⟩ := hp'
          exact sq_of (same_new n2 _ _ (s2 _ _ hp))
        · rintro j x H' hj ⟨H2, ys, s2, n2, rfl, hys⟩
          obtain ⟨c, hc, rfl⟩ := refs_get hj
          obtain ⟨t, ht, hct⟩ := paired_get' hR hc
          have htm := List.mem_of_getElem? ht
          have tl := g.row_len htm
          have rs := g.row_sum hmem
          have ts := g.row_sum htm
          have s3 : Same H1 (upd H2 D (.lst ys)) := s2.trans (same_new n2)
          have jl : j < (Sr112.rows w).length := lt_of_get ht
          have fl : (((Sr112.rows w).take j).filter fun s => Sr112.areCompatible r s).length ≤ 262144 := by
            refine Nat.le_trans (List.length_filter_le _ _) ?_
            rw [List.length_take]
            exact Nat.le_trans (Nat.min_le_right _ _) g.rows_le
          refine ⟨rfl, _, rfl, _, rfl, p, as.map V.ref, i, .ref b, rfl, rfl, sq_of (s3 _ _ hp), ?_, _, rfl, b, c, r, t, rfl, sq_of (s3 _ _ hrow), sq_of (s3 _ _ hct), by omega, by omega, by omega, by omega, fun H3 s4 => ⟨_, rfl, ?_⟩⟩
          · have e2 : i = ((i.toNat : Nat) : Int) := by omega
            rw [e2]
            exact atI_nat (refs_at hb)
          · have hD := s4 _ _ (upd_same (H := H2) (a := D) (o := .lst ys))
            rw [take_more ht, List.filter_append]
            refine ite2 (fun e => ?_) (fun e => ?_)
            · have e' : Sr112.areCompatible r t = true := e
              refine ⟨_, rfl, ys, hD, ?_, del H3 D, ys ++ [.ref c], s2.trans (same_del n2 s4), del_at, upd_del.symm, ?_⟩
              · rw [hys]
                exact big_ok (by omega)
              · rw [List.length_append, List.length_append, hys, List.filter_cons, if_pos e']
                rfl
            · have e' : Sr112.areCompatible r t = false := Bool.eq_false_iff.mpr e
              refine ⟨del H3 D, ys, s2.trans (same_del n2 s4), del_at, ?_, ?_⟩
              · rw [upd_del]
                funext b'
                by_cases z : b' = D
                · rw [z, upd_same]
                  exact hD
                · rw [upd_ne z]
              · rw [List.length_append, hys, List.filter_cons, if_neg e]
                rfl
        · rintro H' ⟨H2, ys, s2, n2, rfl, hys⟩
          rw [List.length_map, hl, List.take_length] at hys
          refine ⟨D, ys, rfl, .inl (sq_of upd_same), (by show 1 ≤ sizeLine; decide), fun c nc => ?_⟩
          have s3 : Same H1 (upd H2 D (.lst ys)) := s2.trans (same_new n2)
          refine q _ c ((s1.trans s3).trans (same_new nc)) ((s1.trans s3).free nc) ?_
          have e2 : resOf w (.compatibleCount i) = [(ys.length : Int)] := by
            unfold resOf Sr112.perform
            simp only [row_at (w := w) h0 hr2]
            rw [hys, ← compat_rows_len]
            rfl
          rw [upd_same, e2]
          rfl
    · have h0 : ¬ 0 ≤ i := by simpa using e
      refine ⟨_, rfl, ?_⟩
      exact ⟨(by show 1 ≤ sizeLine; decide), fun c nc => out (fun h => h0 h.1) c nc⟩
end
end Jw
namespace Jw
open PySem PySem.Spec PyProof.Rows L2
theorem nv_of_row {w : Sr112.Wall} {r : List Int} (h : Sr112.isRow w r = true) : r.map V.int = nv (SrCommon.intsToNats r) := by
  unfold nv ni
  rw [nats_ints (isRow_ints h)]
/-- the wall behind a call -/
def nextW (w : Sr112.Wall) (c : Sr112.Call) : Sr112.Wall := (Sr112.perform w c).1.getD w
/-- the promise of a call that may change the instance -/
def SA (C : Addr) (w : Sr112.Wall) (c : Sr112.Call) (a dx s : Addr) (H : Hp) (Q : VK) : Prop := MsAt H C a dx s w ∧ Good w ∧ ∀ H' p s', MsAt H' C a dx s' (nextW w c) → (s' = s ∨ H s' = none) → (∀ b o, H b = some o → b ≠ a → b ≠ s → H' b = some o) →
  H p = none → H' p = some (.lst ((resOf w c).map V.int)) → Q (.ref p) H'
theorem SA.query {C : Addr} {w : Sr112.Wall} {c : Sr112.Call} {a dx s : Addr} {H : Hp} {Q : VK} (h : SA C w c a dx s H Q) (e : (Sr112.perform w c).1 = none) : QA C w c a H Q := by
  refine ⟨⟨dx, s, h.1⟩, h.2.1, fun H' p sm np hp => h.2.2 H' p s ?_ (.inl rfl) (fun b o q _ _ => sm b o q) np hp⟩
  unfold nextW
  rw [e]
  exact h.1.mono sm
section
variable {P : Program} {w : World} {K : PySem.W.Frag} {mg : Str → Option Value} {base : Heap} {A : Adr}
/-! ### yes_or_no -/
def sp_yes_or_no : Sp := fun vs H Q _ => ∃ b : Bool, vs = [.bl b] ∧ ∀ H' p, Same H H' → H p = none → H' p = some (.lst [.int (SrCommon.boolToInt b)]) → Q (.ref p) H'
theorem ok_yes_or_no (T : Txt K mg A) : Df P w K mg base 1 A.f_yes_or_no ["truth"] sp_yes_or_no := by
  refine Df.of T.F_yes_or_no sc_yes_or_no (fun vs H Q E h => ?_) (fun cdv Ar outer s H vs Q E hr h => ?_)
  · obtain ⟨b, rfl, _⟩ := h
    rfl
  · obtain ⟨b, rfl, q⟩ := h
    refine ⟨_, (pss_cons (ps_if (pt_val (pv 0))
      (pss_one (ps_ret (pe_lst (pa_cons pe_int pa_nil))))
      pss_nil)
      (pss_one (ps_ret (pe_lst (pa_cons pe_int pa_nil))))), ?_⟩
    refine ⟨_, rfl, _, rfl, ?_⟩
    cases b with
    | true => exact ⟨(by show 1 ≤ sizeLine; decide), fun c nc => q _ c (same_new nc) nc upd_same⟩
    | false => exact ⟨(by show 1 ≤ sizeLine; decide), fun c nc => q _ c (same_new nc) nc upd_same⟩
/-! ### Masonry.are_compatible -/
def sp_Masonry_are_compatible (C : Addr) : Sp := fun vs H Q _ => ∃ (a b1 b2 : Addr) (f s : List Int) (w : Sr112.Wall), vs = [.ref a, .ref b1, .ref b2] ∧ H b1 = some (.lst (f.map V.int)) ∧ H b2 = some (.lst (s.map V.int)) ∧ QA C w (.areCompatible f s) a H Q
theorem ok_Masonry_are_compatible (T : Txt K mg A) (D_is_row : Df P w K mg base 1 A.f_is_row ["stones", "length", "stone_lengths"] (sp_is_row K))
    (D_is_compatible : Df P w K mg base 3 A.f_is_compatible ["first", "second"] (sp_is_compatible K)) (D_yes_or_no : Df P w K mg base 1 A.f_yes_or_no ["truth"] sp_yes_or_no) : Df P w K mg base 4 A.f_Masonry_are_compatible ["self", "first", "second"] (sp_Masonry_are_compatible A.c_Masonry) := by
  refine Df.of T.F_Masonry_are_compatible sc_Masonry_are_compatible (fun vs H Q E h => ?_) (fun cdv Ar outer s H vs Q E hr h => ?_)
  · obtain ⟨a, b1, b2, f, s, w, rfl, _⟩ := h
    rfl
  · obtain ⟨a, b1, b2, f, s, w, rfl, hf, hs, ⟨dx, st, hA⟩, g, q⟩ := h
    refine ⟨_, (pss_cons (ps_for PassesOwn.never rfl (pi_tup (pe_tup (pa_cons (pv 1) (pa_cons (pv 2) pa_nil)))) (pg_name (i := 3) sc_Masonry_are_compatible.nd rfl (Or.inl rfl))
      (pss_one (ps_if (pt_not (pt_val (pe_cal D_is_row (hr.mono (by decide)) (by rfl) T.g_is_row (pa_cons (pv 3) (pa_cons (pe_fld (pv 0) rfl) (pa_cons (pe_fld (pv 0) rfl) pa_nil))))))
        (pss_one (ps_ret (pe_lst (pa_cons (pe_cst (by rfl) T.c_OUT_OF_RANGE) pa_nil))))
        pss_nil)))
      (pss_one (ps_ret (pe_cal D_yes_or_no (hr.mono (by decide)) (by rfl) T.g_yes_or_no (pa_cons (pe_cal D_is_compatible (hr.mono (by decide)) (by rfl) T.g_is_compatible (pa_cons (pv 1) (pa_cons (pv 2) pa_nil))) pa_nil))))), ?_⟩
    refine ⟨_, rfl, _, rfl, (by show 2 ≤ sizeLine; decide), fun t nt => ?_⟩
    have sT : Same H (upd H t (.tup [.ref b1, .ref b2])) := same_new nt
    have hA' := hA.mono sT
    refine ⟨t, rfl, ⟨_, .inl (.inl upd_same)⟩, for_tup (K := K) (a := t) (xs := [.ref b1, .ref b2]) (fun i σ H' => ∃ v : Option V, σ = [some (.ref a), some (.ref b1), some (.ref b2), v] ∧ H' = upd H t (.tup [.ref b1, .ref b2]) ∧ ∀ x ∈ [f, s].take i, Sr112.isRow w x = true)
      ⟨none, rfl, rfl, by simp⟩ (fun i σ H' hi hp => ?_) ?_ ?_⟩
    · obtain ⟨v, rfl, rfl, _⟩ := hp
      exact .inl (.inl upd_same)
    · rintro i x σ H' hi ⟨v, rfl, rfl, hall⟩
      obtain ⟨y, b, hy, rfl, hb⟩ : ∃ (y : List Int) (b : Addr), [f, s][i]? = some y ∧ x = .ref b ∧ H b = some (.lst (y.map V.int)) := by
        match i, hi with
        | 0, hi => exact ⟨f, b1, rfl, (Option.some.inj hi).symm, hf⟩
        | 1, hi => exact ⟨s, b2, rfl, (Option.some.inj hi).symm, hs⟩
        | i + 2, hi => simp at hi
      refine ⟨_, rfl, _, rfl, a, A.c_Masonry, dx, _, _, rfl, hA'.1, T.cl_Masonry, T.n_Masonry_length, mF_length _ _, _, rfl, a, A.c_Masonry, dx, _, _, rfl, hA'.1, T.cl_Masonry, T.n_Masonry_stone_lengths, mF_stones _ _,
        b, st, y, ni w.stoneLengths, _, rfl, sq_of (sT _ _ hb), sq_of hA'.2, _, rfl, ?_⟩
      show if (!((y.all fun x => decide (x ∈ ni w.stoneLengths)) && decide (y.sum = (w.length : Int)))) = true then _ else _
      rw [show ((y.all fun x => decide (x ∈ ni w.stoneLengths)) && decide (y.sum = (w.length : Int))) = Sr112.isRow w y from (isRow_is g y).symm]
      refine ite2 (fun e => ?_) (fun e => ?_)
      · have e' : Sr112.isRow w y = false := by simpa using e
        refine ⟨(by show 1 ≤ sizeLine; decide), fun c nc => q _ c (sT.trans (same_new nc)) (sT.free nc) ?_⟩
        have e2 : resOf w (.areCompatible f s) = [-22] := by
          unfold resOf Sr112.perform
          have hor : Sr112.isRow w f = false ∨ Sr112.isRow w s = false := by
            match i, hy with
            | 0, hy =>
              cases hy
              exact .inl e'
            | 1, hy =>
              cases hy
              exact .inr e'
            | i + 2, hy => simp at hy
          simp only [if_pos hor]
          rfl
        rw [upd_same, e2]
        rfl
      · have e' : Sr112.isRow w y = true := by simpa using e
        refine ⟨_, rfl, rfl, fun x hx => ?_⟩
        rw [take_more hy] at hx
        rcases List.mem_append.mp hx with hx | hx
        · exact hall x hx
        · rw [List.mem_singleton.mp hx]
          exact e'
    · rintro σ H' ⟨v, rfl, rfl, hall⟩
      have h1 : Sr112.isRow w f = true := hall f (by simp)
      have h2 : Sr112.isRow w s = true := hall s (by simp)
      have l1 := g.row_len (isRow_mem h1)
      have l2 := g.row_len (isRow_mem h2)
      have hor : ¬ (Sr112.isRow w f = false ∨ Sr112.isRow w s = false) := by
        rw [h1, h2]
        simp
      have s1 := g.row_sum (isRow_mem h1)
      have s2 := g.row_sum (isRow_mem h2)
      refine ⟨_, rfl, _, rfl, b1, b2, _, _, rfl, sq_of (by rw [← nv_of_row h1]; exact sT _ _ hf), sq_of (by rw [← nv_of_row h2]; exact sT _ _ hs), by omega, by omega, by omega, by omega, fun H2 s2 => ⟨_, rfl, fun H3 c s3 nc hc => ?_⟩⟩
      refine q _ c ((sT.trans s2).trans s3) ((sT.trans s2).free nc) ?_
      have e2 : resOf w (.areCompatible f s) = [SrCommon.boolToInt (Sr112.areCompatible (SrCommon.intsToNats f) (SrCommon.intsToNats s))] := by
        unfold resOf Sr112.perform
        simp only [if_neg hor]
        rfl
      rw [hc, e2]
      rfl
/-! ### Masonry.set_length -/
def sp_Masonry_set_length (C : Addr) : Sp := fun vs H Q _ => ∃ (a dx s : Addr) (z : Int) (w : Sr112.Wall), vs = [.ref a, .int z] ∧ SA C w (.setLength z) a dx s H Q
theorem range_nat {z : Int} (h : SrCommon.inRange z 1 9 = true) : 1 ≤ z ∧ z ≤ 9 := by
  unfold SrCommon.inRange at h
  rw [Bool.and_eq_true] at h
  exact ⟨of_decide_eq_true h.1, of_decide_eq_true h.2⟩
theorem ok_Masonry_set_length (T : Txt K mg A) (D_is_length : Df P w K mg base 1 A.f_is_length ["number"] sp_is_length) : Df P w K mg base 2 A.f_Masonry_set_length ["self", "length"] (sp_Masonry_set_length A.c_Masonry) := by
  refine Df.of T.F_Masonry_set_length sc_Masonry_set_length (fun vs H Q E h => ?_) (fun cdv Ar outer s H vs Q E hr h => ?_)
  · obtain ⟨a, dx, s, z, w, rfl, _⟩ := h
    rfl
  · obtain ⟨a, dx, st, z, w, rfl, hA, g, q⟩ := h
    refine ⟨_, (pss_cons (ps_if (pt_not (pt_val (pe_cal D_is_length (hr.mono (by decide)) (by rfl) T.g_is_length (pa_cons (pv 1) pa_nil))))
      (pss_one (ps_ret (pe_lst (pa_cons (pe_cst (by rfl) T.c_OUT_OF_RANGE) pa_nil))))
      pss_nil)
      (pss_cons (ps_set (i := 2) sc_Masonry_set_length.nd rfl (Or.inl rfl) (pe_fld (pv 0) rfl))
      (pss_cons (ps_fld (pv 0) (pv 1) rfl)
      (pss_one (ps_ret (pe_lst (pa_cons (pv 2) pa_nil))))))), ?_⟩
    refine ⟨_, rfl, z, rfl, _, rfl, ite2 (fun e => ?_) (fun e => ?_)⟩
    · have e' : SrCommon.inRange z 1 9 = false := by simpa using e
      refine ⟨(by show 1 ≤ sizeLine; decide), fun c nc => q _ c st ?_ (.inl rfl) (fun b o hb _ _ => same_new nc _ _ hb) nc ?_⟩
      · have e2 : nextW w (.setLength z) = w := by
          unfold nextW Sr112.perform
          simp only [show Sr112.isLength z = false from e', if_pos]
          rfl
        rw [e2]
        exact hA.mono (same_new nc)
      · have e2 : resOf w (.setLength z) = [-22] := by
          unfold resOf Sr112.perform
          simp only [show Sr112.isLength z = false from e', if_pos]
          rfl
        rw [upd_same, e2]
        rfl
    · have e' : SrCommon.inRange z 1 9 = true := by simpa using e
      have hz := range_nat e'
      obtain ⟨n, rfl⟩ : ∃ n : Nat, z = (n : Int) := ⟨z.toNat, by omega⟩
      have hsa : st ≠ a := ne_of hA.2 hA.1 (by intro z; cases z)
      refine ⟨_, rfl, a, A.c_Masonry, dx, _, _, rfl, hA.1, T.cl_Masonry, T.n_Masonry_length, mF_length _ _, ?_⟩
      refine ⟨_, rfl, _, rfl, a, A.c_Masonry, dx, _, rfl, hA.1, T.cl_Masonry, T.n_Masonry_length, (by show 2 < 1000; decide), ?_⟩
      rw [mF_putL]
      refine ⟨_, rfl, (by show 1 ≤ sizeLine; decide), fun c nc => ?_⟩
      obtain ⟨hca, nc'⟩ := upd_free nc
      have ee : Sr112.isLength (n : Int) = true := e'
      refine q _ c st ?_ (.inl rfl) (fun b o hb n1 _ => ?_) nc' ?_
      · have e2 : nextW w (.setLength (n : Int)) = { w with length := n } := by
          unfold nextW Sr112.perform
          simp only [ee, Bool.true_eq_false, if_false]
          rfl
        rw [e2]
        refine ⟨?_, ?_⟩
        · rw [upd_ne hca.symm, upd_same]
        · refine same_new nc _ _ ?_
          rw [upd_ne hsa]
          exact hA.2
      · refine same_new nc _ _ ?_
        rw [upd_ne n1]
        exact hb
      · have e2 : resOf w (.setLength (n : Int)) = [(w.length : Int)] := by
          unfold resOf Sr112.perform
          simp only [ee, Bool.true_eq_false, if_false]
          rfl
        rw [upd_same, e2]
        rfl
end
end Jw
namespace Jw
open PySem PySem.Spec PyProof.Rows L2
section
variable {P : Program} {w : World} {K : PySem.W.Frag} {mg : Str → Option Value} {base : Heap} {A : Adr}
theorem filter_take {p : Nat → Bool} {n i : Nat} (h : i < n) : (List.range (i + 1)).filter p = (List.range i).filter p ++ (if p i then [i] else []) := by
  rw [List.range_succ, List.filter_append, List.filter_cons]
  rfl
/-! ### compatible_rows -/
def sp_compatible_rows : Sp := fun vs H Q _ => ∃ (a : Addr) (R : List (List Nat)), vs = [.ref a] ∧ RowsL H a R ∧ R.length ≤ 262144 ∧ (∀ r ∈ R, r.length ≤ 1000 ∧ r.sum ≤ 1000) ∧
  ∀ H' p, Same H H' → H p = none → RowsL H' p (matC R) → Q (.ref p) H'
theorem ok_compatible_rows (T : Txt K mg A) (D_joint_bits : Df P w K mg base 2 A.f_joint_bits ["row"] (sp_joint_bits K)) : Df P w K mg base 3 A.f_compatible_rows ["rows"] sp_compatible_rows := by
  refine Df.of T.F_compatible_rows sc_compatible_rows (fun vs H Q E h => ?_) (fun cdv Ar outer s H vs Q E hr h => ?_)
  · obtain ⟨a, R, rfl, _⟩ := h
    rfl
  · obtain ⟨a, R, rfl, hA, hl, hb, q⟩ := h
    obtain ⟨as, ha, hR⟩ := hA
    have hal := Paired.length hR
    refine ⟨_, (pss_cons (ps_set (i := 1) sc_compatible_rows.nd rfl (Or.inr rfl) (pe_lc (own := [("row", 4)]) (g := gName 4) (tt := tYes) rfl sc_compatible_rows.nd  (pi_list (pv 0)) (blkOk_by (N := ["rows", "bits", "compatible", "own", "row", "i"]) (sc := defScope s_compatible_rows) (by decide +kernel)) (fun _ _ _ _ _ => pg_name (i := 4) sc_compatible_rows.nd rfl (Or.inl rfl)) (fun _ _ _ _ _ => pts_nil) (fun _ _ _ _ _ => (pe_cal D_joint_bits (hr.mono (by decide)) (by rfl) T.g_joint_bits (pa_cons (pv 4) pa_nil)))) (sw_cell rfl))
      (pss_cons (ps_set (i := 2) sc_compatible_rows.nd rfl (Or.inl rfl) (pe_lst pa_nil))
      (pss_cons (ps_for PassesOwn.never rfl (pi_list (pv 1)) (pg_name (i := 3) sc_compatible_rows.nd rfl (Or.inr rfl))
      (pss_one (ps_expr (pe_bm PySem.F.plainAttrs_list PySem.F.slot_list_append PySem.F.type_list_append mt_append (pv 2) (pa_cons (pe_lc (own := [("i", 5)]) (g := gName 5) rfl sc_compatible_rows.nd  (pi_range1 (by rfl) T.b_range (pa_cons (pe_callB (id := "len") (r := rLn K) call_len_seq (by rfl) T.b_len (by decide +kernel) (pa_cons (pv 1) pa_nil)) pa_nil)) (blkOk_by (N := ["rows", "bits", "compatible", "own", "row", "i"]) (sc := defScope s_compatible_rows) (by decide +kernel)) (fun _ _ _ _ _ => pg_name (i := 5) sc_compatible_rows.nd rfl (Or.inl rfl)) (fun _ _ _ _ _ => (pts_one (pt_cmpR op_eq (pe_op op_and (pv 3) (pe_ix (r := rIxL K) ix_list (pv 1) (pv 5) (fun _ _ => rfl))) pe_int (nomark _)))) (fun _ _ _ _ _ => (pv 5))) pa_nil)))))
      (pss_one (ps_ret (pv 2)))))), ?_⟩
    -- bits = [joint_bits(row) for row in rows]
    refine ⟨_, rfl, a, rfl, ⟨_, sq_of ha⟩, fun D nD => ?_⟩
    refine lc_list (K := K) (a := a) (xs := as.map V.ref) (fun j H' => ∃ H1, Same H H1 ∧ H1 D = none ∧ H' = upd H1 D (.lst (nv ((R.take j).map fun r => bitsN (Sr112.joints r)))))
      ⟨H, Same.refl _, nD, rfl⟩ (fun j H' hj hp => ?_) ?_ ?_
    · obtain ⟨H1, s1, n1, rfl⟩ := hp
      exact sq_of (same_new n1 _ _ (s1 _ _ ha))
    · rintro j x H' hj ⟨H1, s1, n1, rfl⟩
      obtain ⟨c, hc, rfl⟩ := refs_get hj
      obtain ⟨r, hr, hcr⟩ := paired_get' hR hc
      have hrb := hb r (List.mem_of_getElem? hr)
      have jl : j < R.length := lt_of_get hr
      refine ⟨rfl, _, rfl, c, r, rfl, sq_of (same_new n1 _ _ (s1 _ _ hcr)), hrb.1, hrb.2, fun H2 s2 => ⟨_, s2 _ _ upd_same, ?_, del H2 D, s1.trans (same_del n1 s2), del_at, ?_⟩⟩
      · rw [nv_len, List.length_map, List.length_take]
        exact big_ok (by omega)
      · rw [take_more hr, List.map_append, nv_app, upd_del]
        rfl
    · rintro H' ⟨H1, s1, n1, rfl⟩
      rw [List.length_map, hal, List.take_length]
      -- compatible = []
      refine ⟨Nat.zero_le _, fun C nC => ?_⟩
      obtain ⟨nCD, nC1⟩ := upd_free nC
      have sB : Same H (upd H1 D (.lst (nv (R.map fun r => bitsN (Sr112.joints r))))) := s1.trans (same_new n1)
      -- for own in bits
      refine ⟨_, rfl, D, rfl, ⟨_, sq_of (same_new nC _ _ upd_same)⟩, for_list (K := K) (a := D) (xs := nv (R.map fun r => bitsN (Sr112.joints r))) (fun i σ H' => ∃ (v3 v4 v5 : Option V) (H2 : Hp) (bs : List Addr), σ = [some (.ref a), some (.ref D), some (.ref C), v3, v4, v5] ∧
          Same (upd H1 D (.lst (nv (R.map fun r => bitsN (Sr112.joints r))))) H2 ∧ H2 C = none ∧ H' = upd H2 C (.lst (bs.map V.ref)) ∧ RowsA H2 bs ((R.take i).map fun r => matR R r))
        ⟨_, _, _, _, [], rfl, Same.refl _, nC, rfl, .nil⟩ (fun i σ H' hi hp => ?_) ?_ ?_⟩
      · obtain ⟨v3, v4, v5, H2, bs, rfl, s2, n2, rfl, _⟩ := hp
        exact sq_of (same_new n2 _ _ (s2 _ _ upd_same))
      · rintro i x σ H' hi ⟨v3, v4, v5, H2, bs, rfl, s2, n2, rfl, hM⟩
        obtain ⟨o, ho, rfl⟩ := nv_get hi
        obtain ⟨r, hr, rfl⟩ : ∃ r, R[i]? = some r ∧ bitsN (Sr112.joints r) = o := by
          rw [List.getElem?_map] at ho
          cases e : R[i]? with
          | none =>
            rw [e] at ho
            cases ho
          | some r =>
            rw [e] at ho
            exact ⟨r, rfl, Option.some.inj ho⟩
        have il : i < R.length := lt_of_get hr
        have hD2 := s2 _ _ (upd_same (H := H1) (a := D) (o := .lst (nv (R.map fun r => bitsN (Sr112.joints r)))))
        -- compatible.append([i for i in range(len(bits)) if (own & bits[i]) == 0])
        refine ⟨_, rfl, .inl ⟨rfl, _, sq_same⟩, _, rfl, D, _, rfl, .inl (sq_of (same_new n2 _ _ hD2)), _, rfl, ?_, ?_, fun L nL => ?_⟩
        · show -(2 ^ 62) ≤ ((nv (R.map fun r => bitsN (Sr112.joints r))).length : Int)
          omega
        · rw [nv_len, List.length_map]
          omega
        · obtain ⟨nLC, nL2⟩ := upd_free nL
          rw [nv_len, List.length_map]
          refine lc_range (lo := 0) (n := R.length) (fun j H' => ∃ H3, Same (upd H2 C (.lst (bs.map V.ref))) H3 ∧ H3 L = none ∧ H' = upd H3 L (.lst (nv ((List.range j).filter fun k => Sr112.areCompatible r (R.getD k [])))))
            ⟨_, Same.refl _, nL, rfl⟩ ?_ ?_
          · rintro j H' hj ⟨H3, s3, n3, rfl⟩
            have hD3 : (upd H3 L (.lst (nv ((List.range j).filter fun k => Sr112.areCompatible r (R.getD k []))))) D = some (.lst (nv (R.map fun r => bitsN (Sr112.joints r)))) := same_new n3 _ _ (s3 _ _ (same_new n2 _ _ hD2))
            have hk : (nv (R.map fun r => bitsN (Sr112.joints r)))[j]? = some (V.int ((bitsN (Sr112.joints (R.getD j [])) : Nat) : Int)) := by
              refine nv_at ?_
              rw [List.getElem?_map, List.getElem?_eq_getElem hj, List.getD_eq_getElem?_getD, List.getElem?_eq_getElem hj]
              rfl
            refine ⟨rfl, _, rfl, _, rfl, _, rfl, D, _, ((j : Nat) : Int), _, rfl, congrArg V.int (by omega), sq_of hD3, atI_nat hk, _, _, rfl, rfl, rfl, _, rfl, ?_⟩
            show if decide (V.int (Builtin.bitAnd _ _) = V.int 0) = true then _ else _
            rw [and_dec, filter_take hj]
            have jl : ((List.range j).filter fun k => Sr112.areCompatible r (R.getD k [])).length ≤ j := by
              refine Nat.le_trans (List.length_filter_le _ _) ?_
              rw [List.length_range]
              exact Nat.le_refl _
            refine ite2 (fun e => ?_) (fun e => ?_)
            · refine ⟨_, rfl, _, upd_same, ?_, H3, s3, n3, ?_⟩
              · rw [nv_len]
                exact big_ok (by omega)
              · rw [upd_upd, if_pos e, nv_app]
                show upd H3 L (.lst (_ ++ [V.int (0 + (j : Int))])) = upd H3 L (.lst (_ ++ [V.int (j : Int)]))
                rw [Int.zero_add]
            · refine ⟨H3, s3, n3, ?_⟩
              rw [if_neg e, List.append_nil]
          · rintro H' ⟨H3, s3, n3, rfl⟩
            have hC3 := s3 _ _ (upd_same (H := H2) (a := C) (o := .lst (bs.map V.ref)))
            have hLC : L ≠ C := nLC
            refine ⟨C, bs.map V.ref, .ref L, rfl, rfl, ?_, ?_, ?_⟩
            · rw [upd_ne hLC.symm]
              exact hC3
            · have hl2 := Paired.length hM
              rw [List.length_map, List.length_take] at hl2
              rw [List.length_map]
              exact big_ok (by omega)
            · have sx : Same H2 (del (upd H3 L (.lst (nv (matR R r)))) C) := same_del n2 (s3.trans (same_new n3))
              refine ⟨_, _, _, del (upd H3 L (.lst (nv (matR R r)))) C, bs ++ [L], rfl, s2.trans sx, del_at, ?_, ?_⟩
              · rw [upd_del, List.map_append]
                rfl
              · rw [take_more hr, List.map_append]
                refine (hM.mono sx).snoc ?_
                rw [del_ne hLC, upd_same]
      · rintro σ H' ⟨v3, v4, v5, H2, bs, rfl, s2, n2, rfl, hM⟩
        rw [nv_len, List.length_map, List.take_length] at hM
        exact ⟨_, rfl, q _ C ((sB.trans s2).trans (same_new n2)) (s1.free nC1) ⟨bs, upd_same, hM.mono (same_new n2)⟩⟩
end
end Jw
namespace Jw
open PySem PySem.Spec PyProof.Rows L2
theorem ni_sum (l : List Nat) : (ni l).sum = ((l.sum : Nat) : Int) := sum_cast l
section
variable {P : Program} {w : World} {K : PySem.W.Frag} {mg : Str → Option Value} {base : Heap} {A : Adr}
/-! ### one_row_higher -/
def sp_one_row_higher (K : PySem.W.Frag) : Sp := fun vs H Q _ => ∃ (a b : Addr) (c : List Nat) (C : List (List Nat)), vs = [.ref a, .ref b] ∧ SqL K H a (nv c) ∧ RowsL H b C ∧ C.length ≤ 262144 ∧ (∀ r ∈ C, r.length ≤ 262144 ∧ ∀ i ∈ r, i < c.length) ∧
  ∀ H' p, Same H H' → H p = none → H' p = some (.lst (nv (upC C c))) → Q (.ref p) H'
theorem ok_one_row_higher (T : Txt K mg A) : Df P w K mg base 1 A.f_one_row_higher ["counts", "compatible"] (sp_one_row_higher K) := by
  refine Df.of T.F_one_row_higher sc_one_row_higher (fun vs H Q E h => ?_) (fun cdv Ar outer s H vs Q E hr h => ?_)
  · obtain ⟨a, b, c, C, rfl, _⟩ := h
    rfl
  · obtain ⟨a, b, c, C, rfl, hA, ⟨as, hb, hC⟩, hl, hin, q⟩ := h
    have hal := Paired.length hC
    refine ⟨_, (pss_cons (ps_set (i := 2) sc_one_row_higher.nd rfl (Or.inl rfl) (pe_lst pa_nil))
      (pss_cons (ps_for PassesOwn.never rfl (pi_list (pv 1)) (pg_name (i := 3) sc_one_row_higher.nd rfl (Or.inl rfl))
      (pss_one (ps_expr (pe_bm PySem.F.plainAttrs_list PySem.F.slot_list_append PySem.F.type_list_append mt_append (pv 2) (pa_cons (pe_callB (cr_sum rfl) (by rfl) T.b_sum (by decide +kernel) (pa_cons (pe_lc (own := [("i", 4)]) (g := gName 4) (tt := tYes) rfl sc_one_row_higher.nd  (pi_list (pv 3)) (blkOk_by (N := ["counts", "compatible", "higher", "below", "i"]) (sc := defScope s_one_row_higher) (by decide +kernel)) (fun _ _ _ _ _ => pg_name (i := 4) sc_one_row_higher.nd rfl (Or.inl rfl)) (fun _ _ _ _ _ => pts_nil) (fun _ _ _ _ _ => (pe_ix (r := rIxL K) ix_list (pv 0) (pv 4) (fun _ _ => rfl)))) pa_nil)) pa_nil)))))
      (pss_one (ps_ret (pv 2))))), ?_⟩
    refine ⟨Nat.zero_le _, fun o no => ?_⟩
    refine ⟨_, rfl, b, rfl, ⟨_, sq_of (same_new no _ _ hb)⟩, for_list (K := K) (a := b) (xs := as.map V.ref) (fun i σ H' => ∃ (v3 v4 : Option V) (H1 : Hp), σ = [some (.ref a), some (.ref b), some (.ref o), v3, v4] ∧ Same H H1 ∧ H1 o = none ∧ H' = upd H1 o (.lst (nv (upC (C.take i) c))))
      ⟨_, _, H, rfl, Same.refl _, no, rfl⟩ (fun i σ H' hi hp => ?_) ?_ ?_⟩
    · obtain ⟨v3, v4, H1, rfl, s1, n1, rfl⟩ := hp
      exact sq_of (same_new n1 _ _ (s1 _ _ hb))
    · rintro i x σ H' hi ⟨v3, v4, H1, rfl, s1, n1, rfl⟩
      obtain ⟨d, hd, rfl⟩ := refs_get hi
      obtain ⟨r, hr, hdr⟩ := paired_get' hC hd
      have il : i < C.length := lt_of_get hr
      obtain ⟨hrl, hri⟩ := hin r (List.mem_of_getElem? hr)
      -- higher.append(sum([counts[i] for i in below]))
      refine ⟨_, rfl, .inl ⟨rfl, _, sq_same⟩, _, rfl, d, rfl, ⟨_, sq_of (same_new n1 _ _ (s1 _ _ hdr))⟩, fun L nL => ?_⟩
      obtain ⟨nLo, nL1⟩ := upd_free nL
      refine lc_list (K := K) (a := d) (xs := nv r) (fun j H' => ∃ H2, Same (upd H1 o (.lst (nv (upC (C.take i) c)))) H2 ∧ H2 L = none ∧ H' = upd H2 L (.lst (nv ((r.take j).map fun k => c.getD k 0))))
        ⟨_, Same.refl _, nL, rfl⟩ (fun j H' hj hp => ?_) ?_ ?_
      · obtain ⟨H2, s2, n2, rfl⟩ := hp
        exact sq_of (same_new n2 _ _ (s2 _ _ (same_new n1 _ _ (s1 _ _ hdr))))
      · rintro j x H' hj ⟨H2, s2, n2, rfl⟩
        obtain ⟨k, hk, rfl⟩ := nv_get hj
        have hkc := hri k (List.mem_of_getElem? hk)
        have jl : j < r.length := lt_of_get hk
        have hck : (nv c)[k]? = some (V.int ((c.getD k 0 : Nat) : Int)) := by
          refine nv_at ?_
          rw [List.getElem?_eq_getElem hkc, List.getD_eq_getElem?_getD, List.getElem?_eq_getElem hkc]
          rfl
        have sA : SqL K (upd H2 L (.lst (nv ((r.take j).map fun k => c.getD k 0)))) a (nv c) := (((s1.trans (same_new n1)).trans s2).trans (same_new n2)).seq hA
        refine ⟨rfl, _, rfl, _, rfl, a, _, _, _, rfl, rfl, sA, atI_nat hck, _, upd_same, ?_, H2, s2, n2, ?_⟩
        · rw [nv_len, List.length_map, List.length_take]
          exact big_ok (by omega)
        · rw [upd_upd, take_more hk, List.map_append, nv_app]
          rfl
      · rintro H' ⟨H2, s2, n2, rfl⟩
        rw [nv_len, List.take_length]
        have ho2 := s2 _ _ (upd_same (H := H1) (a := o) (o := .lst (nv (upC (C.take i) c))))
        refine ⟨L, ni (r.map fun k => c.getD k 0), rfl, sq_of upd_same, o, nv (upC (C.take i) c), _, rfl, rfl, ?_, ?_, ?_⟩
        · rw [upd_ne nLo.symm]
          exact ho2
        · rw [nv_len]
          unfold upC
          rw [List.length_map, List.length_take]
          exact big_ok (by omega)
        · refine ⟨_, _, del (upd H2 L (.lst (nv (r.map fun k => c.getD k 0)))) o, rfl, s1.trans (same_del n1 (s2.trans (same_new n2))), del_at, ?_⟩
          rw [upd_del, ni_sum]
          unfold upC
          rw [take_more hr, List.map_append, nv_app]
          rfl
    · rintro σ H' ⟨v3, v4, H1, rfl, s1, n1, rfl⟩
      rw [List.length_map, hal, List.take_length]
      exact ⟨_, rfl, q _ o (s1.trans (same_new n1)) no upd_same⟩
/-! ### count_walls -/
def sp_count_walls (K : PySem.W.Frag) : Sp := fun vs H Q _ => ∃ (b : Addr) (h : Nat) (C : List (List Nat)), vs = [.int (h : Int), .ref b] ∧ RowsL H b C ∧ h ≤ 1000 ∧ C.length ≤ 262144 ∧ (∀ r ∈ C, r.length ≤ 262144 ∧ ∀ i ∈ r, i < C.length) ∧
  ∀ H', Same H H' → Q (.int (cwC C h : Nat)) H'
theorem ok_count_walls (T : Txt K mg A) (D_one_row_higher : Df P w K mg base 1 A.f_one_row_higher ["counts", "compatible"] (sp_one_row_higher K)) : Df P w K mg base 2 A.f_count_walls ["height", "compatible"] (sp_count_walls K) := by
  refine Df.of T.F_count_walls sc_count_walls (fun vs H Q E h => ?_) (fun cdv Ar outer s H vs Q E hr h => ?_)
  · obtain ⟨b, h, C, rfl, _⟩ := h
    rfl
  · obtain ⟨b, h, C, rfl, hC, hh, hl, hin, q⟩ := h
    obtain ⟨as, hb, hA⟩ := id hC
    have hal := Paired.length hA
    refine ⟨_, (pss_cons (ps_if (pt_cmpR op_eq (pv 0) pe_int (nomark _))
      (pss_one (ps_ret pe_int))
      pss_nil)
      (pss_cons (ps_set (i := 2) sc_count_walls.nd rfl (Or.inl rfl) (pe_op op_rep (pe_lst (pa_cons pe_int pa_nil)) (pe_callB call_len_seq (by rfl) T.b_len (by decide +kernel) (pa_cons (pv 1) pa_nil))))
      (pss_cons (ps_for PassesOwn.never rfl (pi_range1 (by rfl) T.b_range (pa_cons (pe_op op_sub (pv 0) pe_int) pa_nil)) (pg_name (i := 3) sc_count_walls.nd rfl (Or.inl rfl))
      (pss_one (ps_set (i := 2) sc_count_walls.nd rfl (Or.inl rfl) (pe_cal D_one_row_higher (hr.mono (by decide)) (by rfl) T.g_one_row_higher (pa_cons (pv 2) (pa_cons (pv 1) pa_nil))))))
      (pss_one (ps_ret (pe_callB (cr_sum rfl) (by rfl) T.b_sum (by decide +kernel) (pa_cons (pv 2) pa_nil))))))), ?_⟩
    refine ⟨_, rfl, rfl, _, rfl, ite2 (fun e => ?_) (fun e => ?_)⟩
    · have e1 : (h : Int) = 0 := V.int.inj (of_decide_eq_true e)
      obtain rfl : h = 0 := by omega
      exact q H (Same.refl _)
    · have h0 : h ≠ 0 := fun z => e (by rw [z]; rfl)
      obtain ⟨n, rfl⟩ : ∃ n, h = n + 1 := ⟨h - 1, by omega⟩
      -- counts = [1] * len(compatible)
      refine ⟨(by show 1 ≤ sizeLine; decide), fun c nc => ⟨_, rfl, b, _, rfl, .inl (sq_of (same_new nc _ _ hb)), _, _, _, rfl, rfl, upd_same, ?_, ?_, ?_, fun p np => ?_⟩⟩
      · show -(2 ^ 63) ≤ ((as.map V.ref).length : Int)
        omega
      · rw [List.length_map]
        omega
      · rw [List.length_map]
        show 1 * (as.length : Int).toNat ≤ sizeLine
        exact Nat.le_of_lt (big_ok (by omega))
      · have s1 := (same_new (o := .lst [V.int 1]) nc).trans (same_new (H := upd H c (.lst [V.int 1])) (o := .lst (nv (cntC C 0))) np)
        have e0 : (List.replicate ((as.map V.ref).length : Int).toNat [V.int 1]).flatten = nv (cntC C 0) := by
          rw [List.length_map, hal, Int.toNat_natCast]
          show _ = nv (List.replicate C.length 1)
          induction C.length with
          | zero => rfl
          | succ k ih =>
            rw [List.replicate_succ, List.flatten_cons, ih, List.replicate_succ]
            rfl
        rw [e0]
        -- for step in range(height - 1)
        refine ⟨_, rfl, _, _, rfl, rfl, _, rfl, ?_, ?_, for_range (lo := 0) (n := (((n + 1 : Nat) : Int) - 1).toNat) (fun i σ H' => ∃ (v3 : Option V) (c1 : Addr), σ = [some (.int ((n + 1 : Nat) : Int)), some (.ref b), some (.ref c1), v3] ∧ Same H H' ∧ H' c1 = some (.lst (nv (cntC C i))))
          ⟨_, p, rfl, s1, upd_same⟩ ?_ ?_⟩
        · omega
        · omega
        · rintro i σ H' hi ⟨v3, c1, rfl, s2, hc1⟩
          refine ⟨_, rfl, _, rfl, c1, b, cntC C i, C, rfl, sq_of hc1, hC.mono s2, hl, fun r hr => ?_, fun H2 p2 s3 np2 hp2 => ⟨_, p2, rfl, s2.trans s3, hp2⟩⟩
          rw [cntC_len]
          exact hin r hr
        · rintro σ H' ⟨v3, c1, rfl, s2, hc1⟩
          rw [show (((n + 1 : Nat) : Int) - 1).toNat = n by omega] at hc1
          refine ⟨_, rfl, c1, ni (cntC C n), rfl, sq_of hc1, ?_⟩
          rw [ni_sum]
          exact q H' s2
end
end Jw
namespace Jw
open PySem PySem.Spec PyProof.Rows L2
theorem wu_more (C : List (List Nat)) (k i : Nat) : wuC C (k + 1) i = wuC C k i ++ [wkC C i k] := by
  unfold wuC
  rw [List.range_succ, List.map_append]
  rfl
theorem wu_len (C : List (List Nat)) (k i : Nat) : (wuC C k i).length = k := by
  unfold wuC
  rw [List.length_map, List.length_range]
/-- a row upon which one may lie -/
def Bears (C : List (List Nat)) (i : Nat) : Prop := ∃ j r, C[i]? = some (j :: r)
theorem wk_bears {C : List (List Nat)} (G : Goes C) {i : Nat} (h : Bears C i) : ∀ k, Bears C (wkC C i k)
  | 0 => h
  | k + 1 => by
    obtain ⟨j, r, e⟩ := wk_bears G h k
    have e1 : wkC C i (k + 1) = j := by
      show (C.getD (wkC C i k) []).headD 0 = j
      rw [List.getD_eq_getElem?_getD, e]
      rfl
    rw [e1]
    exact G _ _ _ e
section
variable {P : Program} {w : World} {K : PySem.W.Frag} {mg : Str → Option Value} {base : Heap} {A : Adr}
/-! ### wall_upon -/
def sp_wall_upon : Sp := fun vs H Q _ => ∃ (b : Addr) (i h : Nat) (C : List (List Nat)), vs = [.int (i : Int), .int (h : Int), .ref b] ∧ RowsL H b C ∧ 1 ≤ h ∧ h ≤ 1000 ∧ (h = 1 ∨ Bears C i) ∧ Goes C ∧
  ∀ H' p, Same H H' → H p = none → H' p = some (.lst (nv (wuC C h i))) → Q (.ref p) H'
theorem ok_wall_upon (T : Txt K mg A) : Df P w K mg base 1 A.f_wall_upon ["lowest", "height", "compatible"] sp_wall_upon := by
  refine Df.of T.F_wall_upon sc_wall_upon (fun vs H Q E h => ?_) (fun cdv Ar outer s H vs Q E hr h => ?_)
  · obtain ⟨b, i, h, C, rfl, _⟩ := h
    rfl
  · obtain ⟨b, i, h, C, rfl, ⟨as, hb, hA⟩, h1, h9, hbe, G, q⟩ := h
    refine ⟨_, (pss_cons (ps_set (i := 3) sc_wall_upon.nd rfl (Or.inl rfl) (pe_lst (pa_cons (pv 0) pa_nil)))
      (pss_cons (ps_while PassesOwn.never (pt_cmpR op_lt (pe_callB call_len_seq (by rfl) T.b_len (by decide +kernel) (pa_cons (pv 3) pa_nil)) (pv 1) (nomark _))
      (pss_one (ps_expr (pe_bm PySem.F.plainAttrs_list PySem.F.slot_list_append PySem.F.type_list_append mt_append (pv 3) (pa_cons (pe_ix (r := rIxL K) ix_list (pe_ix (r := rIxL K) ix_list (pv 2) (pe_ix (r := rIxL K) ix_list (pv 3) (pe_un un_neg pe_int) (fun _ _ => rfl)) (fun _ _ => rfl)) pe_int (fun _ _ => rfl)) pa_nil)))))
      (pss_one (ps_ret (pv 3))))), ?_⟩
    refine ⟨_, rfl, (by show 1 ≤ sizeLine; decide), fun p np => ?_⟩
    refine ⟨fun m σ H' => ∃ (k : Nat) (H1 : Hp), σ = [some (.int (i : Int)), some (.int (h : Int)), some (.ref b), some (.ref p)] ∧ m = h - k ∧ 1 ≤ k ∧ k ≤ h ∧ Same H H1 ∧ H1 p = none ∧ H' = upd H1 p (.lst (nv (wuC C k i))),
      ⟨h - 1, 1, H, rfl, rfl, Nat.le_refl _, h1, Same.refl _, np, rfl⟩, ?_⟩
    rintro m σ H2 ⟨k, H1, rfl, rfl, hk1, hkh, s1, n1, rfl⟩
    refine ⟨_, rfl, p, _, rfl, .inl sq_same, _, rfl, _, _, rfl, rfl, _, rfl, ite2 (fun e => ?_) (fun e => ?_)⟩
    · have hlt : k < h := by
        have := of_decide_eq_true e
        rw [nv_len, wu_len] at this
        omega
      have hbe : Bears C i := hbe.resolve_left (by omega)
      obtain ⟨k', rfl⟩ : ∃ k', k = k' + 1 := ⟨k - 1, by omega⟩
      obtain ⟨j, r, hj⟩ := wk_bears G hbe k'
      obtain ⟨d, hd, hdr⟩ := paired_get hA hj
      refine ⟨fun σ' H' => ∃ m', m' < h - (k' + 1) ∧ ∃ (k : Nat) (H1 : Hp), σ' = [some (.int (i : Int)), some (.int (h : Int)), some (.ref b), some (.ref p)] ∧ m' = h - k ∧ 1 ≤ k ∧ k ≤ h ∧ Same H H1 ∧ H1 p = none ∧ H' = upd H1 p (.lst (nv (wuC C k i))), fun _ _ h => h, ?_⟩
      have kp : ∀ a o, H a = some o → (upd H1 p (.lst (nv (wuC C (k' + 1) i)))) a = some o := fun a o e => same_new n1 _ _ (s1 _ _ e)
      have hlast : atI (nv (wuC C (k' + 1) i)) (-1) = some (V.int ((wkC C i k' : Nat) : Int)) := by
        rw [wu_more, nv_app]
        exact atI_last _ _
      refine ⟨_, rfl, .inl ⟨rfl, _, sq_same⟩, _, rfl, _, rfl, 1, rfl, p, _, -1, _, rfl, rfl, sq_same, hlast, b, as.map V.ref, _, .ref d, rfl, rfl, sq_of (kp _ _ hb), atI_nat (refs_at hd), d, nv (j :: r), 0, .int (j : Int), rfl, rfl, sq_of (kp _ _ hdr), atI_nat (j := 0) rfl, p, _, _, rfl, rfl, upd_same, ?_, ?_⟩
      · rw [nv_len, wu_len]
        exact big_ok (by omega)
      · refine ⟨h - (k' + 1 + 1), by omega, k' + 1 + 1, H1, rfl, rfl, by omega, by omega, s1, n1, ?_⟩
        rw [upd_upd, wu_more C (k' + 1), nv_app]
        have e1 : wkC C i (k' + 1) = j := by
          show (C.getD (wkC C i k') []).headD 0 = j
          rw [List.getD_eq_getElem?_getD, hj]
          rfl
        rw [e1]
        rfl
    · have hge : ¬ k < h := fun z => e (decide_eq_true (by rw [nv_len, wu_len]; omega))
      obtain rfl : k = h := by omega
      exact ⟨_, rfl, q _ p (s1.trans (same_new n1)) np upd_same⟩
/-! ### find_first_wall -/
def sp_find_first_wall : Sp := fun vs H Q _ => ∃ (b : Addr) (h : Nat) (C : List (List Nat)), vs = [.int (h : Int), .ref b] ∧ RowsL H b C ∧ 1 ≤ h ∧ h ≤ 1000 ∧ C.length ≤ 262144 ∧ Goes C ∧
  ∀ H' p, Same H H' → H p = none → H' p = some (.lst (nv (fwC C h))) → Q (.ref p) H'
theorem find_none {α : Type} {p : α → Bool} : ∀ {l : List α}, (∀ x ∈ l, p x = false) → l.find? p = none
  | [], _ => rfl
  | a :: l, h => by
    rw [List.find?_cons, h a (List.mem_cons_self ..)]
    exact find_none fun x hx => h x (List.mem_cons_of_mem _ hx)
theorem find_at {p : Nat → Bool} {n i : Nat} (hi : i < n) (h1 : ∀ j < i, p j = false) (h2 : p i = true) : (List.range n).find? p = some i := by
  have e : List.range n = List.range i ++ (List.range (n - i)).map fun k => i + k := by
    have := List.range_add (n := i) (m := n - i)
    rw [show i + (n - i) = n by omega] at this
    exact this
  rw [e, List.find?_append, find_none fun x hx => h1 x (List.mem_range.mp hx)]
  obtain ⟨m, hm⟩ : ∃ m, n - i = m + 1 := ⟨n - i - 1, by omega⟩
  rw [hm, List.range_succ_eq_map, List.map_cons, List.find?_cons, Nat.add_zero, h2]
  rfl
theorem ok_find_first_wall (T : Txt K mg A) (D_wall_upon : Df P w K mg base 1 A.f_wall_upon ["lowest", "height", "compatible"] sp_wall_upon) : Df P w K mg base 2 A.f_find_first_wall ["height", "compatible"] sp_find_first_wall := by
  refine Df.of T.F_find_first_wall sc_find_first_wall (fun vs H Q E h => ?_) (fun cdv Ar outer s H vs Q E hr h => ?_)
  · obtain ⟨b, h, C, rfl, _⟩ := h
    rfl
  · obtain ⟨b, h, C, rfl, hC, h1, h9, hl, G, q⟩ := h
    obtain ⟨as, hb, hA⟩ := id hC
    have hal := Paired.length hA
    refine ⟨_, (pss_cons (ps_for PassesOwn.never rfl (pi_range1 (by rfl) T.b_range (pa_cons (pe_callB call_len_seq (by rfl) T.b_len (by decide +kernel) (pa_cons (pv 1) pa_nil)) pa_nil)) (pg_name (i := 2) sc_find_first_wall.nd rfl (Or.inl rfl))
      (pss_one (ps_if (PW.pt (pw_or (pt_cmpR op_eq (pv 0) pe_int (nomark _)) (pw_or1 (pt_truth (pe_ix (r := rIxL K) ix_list (pv 1) (pv 2) (fun _ _ => rfl)) (by intro _; rfl)))))
        (pss_one (ps_ret (pe_cal D_wall_upon (hr.mono (by decide)) (by rfl) T.g_wall_upon (pa_cons (pv 2) (pa_cons (pv 0) (pa_cons (pv 1) pa_nil))))))
        pss_nil)))
      (pss_one (ps_ret (pe_lst pa_nil)))), ?_⟩
    have yes : ∀ i, i < C.length → (∀ j < i, ((h == 1) || !(C.getD j []).isEmpty) = false) → ((h == 1) || !(C.getD i []).isEmpty) = true → tCal sp_wall_upon (tCons (tVar 2) (tCons (tVar 0) (tCons (tVar 1) tNil))) [some (.int (h : Int)), some (.ref b), some (.int (0 + (i : Int)))] H Q := by
      intro i hi hn hp
      refine ⟨_, rfl, _, rfl, _, rfl, b, i, h, C, by rw [Int.zero_add], hC, h1, h9, ?_, G, fun H' p s' np hp' => ?_⟩
      · rw [Bool.or_eq_true] at hp
        rcases hp with hp | hp
        · exact .inl (by simpa using hp)
        · refine .inr ?_
          unfold Bears
          rw [List.getElem?_eq_getElem hi]
          rw [List.getD_eq_getElem?_getD, List.getElem?_eq_getElem hi] at hp
          cases e : C[i] with
          | nil =>
            rw [e] at hp
            cases hp
          | cons j r => exact ⟨j, r, rfl⟩
      · refine q H' p s' np ?_
        have e : (List.range C.length).find? (fun i => (h == 1) || !(C.getD i []).isEmpty) = some i := find_at hi hn hp
        unfold fwC
        rw [e]
        exact hp'
    refine ⟨_, rfl, b, _, rfl, .inl (sq_of hb), _, rfl, ?_, ?_, for_range (lo := 0) (n := ((as.map V.ref).length : Int).toNat) (fun i σ H' => ∃ v : Option V, σ = [some (.int (h : Int)), some (.ref b), v] ∧ H' = H ∧ ∀ j < i, ((h == 1) || !(C.getD j []).isEmpty) = false)
      ⟨_, rfl, rfl, fun j hj => absurd hj (Nat.not_lt_zero _)⟩ ?_ ?_⟩
    · omega
    · rw [List.length_map]
      omega
    · rintro i σ H' hi ⟨v, rfl, rfl, hn⟩
      have hi' : i < C.length := by
        rw [List.length_map] at hi
        omega
      have hi2 : i < as.length := by omega
      refine ⟨_, rfl, rfl, _, rfl, ite2 (fun e => ?_) (fun e => ?_)⟩
      · have e1 : (h : Int) = 1 := V.int.inj (of_decide_eq_true e)
        obtain rfl : h = 1 := by omega
        exact yes i hi' hn rfl
      · have e1 : h ≠ 1 := fun z => e (by rw [z]; rfl)
        have e2 : (h == 1) = false := by simpa using e1
        obtain ⟨r, hr, hd⟩ := paired_get' hA (List.getElem?_eq_getElem hi2)
        have hrd : C.getD i [] = r := by
          rw [List.getD_eq_getElem?_getD, hr]
          rfl
        refine ⟨_, rfl, _, rfl, b, as.map V.ref, (i : Int), .ref as[i], rfl, congrArg V.int (Int.zero_add _), sq_of hb, atI_nat (refs_at (List.getElem?_eq_getElem hi2)), _, .inl ⟨_, sq_of hd, rfl⟩, ?_⟩
        have e3 : (!(nv r).isEmpty) = !r.isEmpty := by
          cases r <;> rfl
        rw [e3]
        refine ite2 (fun e => ?_) (fun e => ?_)
        · refine yes i hi' hn ?_
          rw [hrd, e, Bool.or_true]
        · refine ⟨_, rfl, rfl, fun j hj => ?_⟩
          by_cases hji : j < i
          · exact hn j hji
          · obtain rfl : j = i := by omega
            rw [hrd, e2, Bool.false_or]
            simpa using e
    · rintro σ H' ⟨v, rfl, rfl, hn⟩
      refine ⟨Nat.zero_le _, fun c nc => q _ c (same_new nc) nc ?_⟩
      have e : (List.range C.length).find? (fun i => (h == 1) || !(C.getD i []).isEmpty) = none := by
        refine find_none fun x hx => hn x ?_
        have := List.mem_range.mp hx
        rw [List.length_map]
        omega
      unfold fwC
      rw [e, upd_same]
      rfl
end
end Jw
namespace Jw
open PySem PySem.Spec PyProof.Rows L2
theorem ni_get {l : List Nat} {i : Nat} {z : Int} (h : (ni l)[i]? = some z) : ∃ n : Nat, l[i]? = some n ∧ z = (n : Int) := by
  unfold ni at h
  rw [List.getElem?_map] at h
  cases e : l[i]? with
  | none =>
    rw [e] at h
    cases h
  | some n =>
    rw [e] at h
    exact ⟨n, rfl, (Option.some.inj h).symm⟩
section
variable {P : Program} {w : World} {K : PySem.W.Frag} {mg : Str → Option Value} {base : Heap} {A : Adr}
/-! ### find_loneliest -/
def sp_find_loneliest : Sp := fun vs H Q _ => ∃ (a : Addr) (C : List (List Nat)), vs = [.ref a] ∧ RowsL H a C ∧ 0 < C.length ∧ C.length ≤ 262144 ∧
  ∀ H' (i : Nat) (b : List Nat), Same H H' → C[i]? = some b → (∀ (j : Nat) c, C[j]? = some c → b.length ≤ c.length) → (∀ (j : Nat) c, j < i → C[j]? = some c → b.length < c.length) → Q (.int (i : Int)) H'
theorem ok_find_loneliest (T : Txt K mg A) : Df P w K mg base 1 A.f_find_loneliest ["compatible"] sp_find_loneliest := by
  refine Df.of T.F_find_loneliest sc_find_loneliest (fun vs H Q E h => ?_) (fun cdv Ar outer s H vs Q E hr h => ?_)
  · obtain ⟨a, C, rfl, _⟩ := h
    rfl
  · obtain ⟨a, C, rfl, ⟨as, ha, hC⟩, h0, hl, q⟩ := h
    have hal := Paired.length hC
    refine ⟨_, (pss_cons (ps_setLc (i := 1) (own := [("numbers", 2)]) (g := gName 2) (tt := tYes) rfl sc_find_loneliest.nd rfl rfl (sw_true rfl rfl rfl (by decide +kernel)) (pi_list (pv 0)) (blkOk_by (N := ["compatible", "counts", "numbers"]) (sc := defScope s_find_loneliest) (by decide +kernel)) (fun _ _ _ _ _ => pg_name (i := 2) sc_find_loneliest.nd rfl (Or.inl rfl)) (fun _ _ _ _ _ => pts_nil) (fun _ _ _ _ _ => (pe_callB (id := "len") (r := rLn K) call_len_seq (by rfl) T.b_len (by decide +kernel) (pa_cons (pv 2) pa_nil))))
      (pss_one (ps_ret (pe_bm PySem.F.plainAttrs_list PySem.F.slot_list_index PySem.F.type_list_index mt_index (pv 1) (pa_cons (pe_callB (cr_min rfl) (by rfl) T.b_min (by decide +kernel) (pa_cons (pv 1) pa_nil)) pa_nil))))), ?_⟩
    refine ⟨_, rfl, a, rfl, ⟨_, sq_of ha⟩, fun D nD => ?_⟩
    refine lc_list (K := K) (a := a) (xs := as.map V.ref) (fun j H' => ∃ H1, Same H H1 ∧ H1 D = none ∧ H' = upd H1 D (.lst (nv ((C.take j).map List.length))))
      ⟨H, Same.refl _, nD, rfl⟩ (fun j H' hj hp => ?_) ?_ ?_
    · obtain ⟨H1, s1, n1, rfl⟩ := hp
      exact sq_of (same_new n1 _ _ (s1 _ _ ha))
    · rintro j x H' hj ⟨H1, s1, n1, rfl⟩
      obtain ⟨c, hc, rfl⟩ := refs_get hj
      obtain ⟨r, hr, hcr⟩ := paired_get' hC hc
      have jl : j < C.length := lt_of_get hr
      refine ⟨rfl, _, rfl, c, nv r, rfl, .inl (sq_of (same_new n1 _ _ (s1 _ _ hcr))), _, upd_same, ?_, H1, s1, n1, ?_⟩
      · rw [nv_len, List.length_map, List.length_take]
        exact big_ok (by omega)
      · rw [upd_upd, take_more hr, List.map_append, nv_app, nv_len]
        rfl
    · rintro H' ⟨H1, s1, n1, rfl⟩
      rw [List.length_map, hal, List.take_length]
      refine ⟨_, rfl, .inl ⟨rfl, _, sq_same⟩, _, rfl, D, ni (C.map List.length), rfl, sq_same, ?_, fun m hm hle => ?_⟩
      · show 0 < (ni (C.map List.length)).length
        unfold ni
        rw [List.length_map, List.length_map]
        exact h0
      · -- the first place
        have hex : ∃ i : Nat, (ni (C.map List.length))[i]? = some m := by
          obtain ⟨i, hi, e⟩ := List.getElem_of_mem hm
          exact ⟨i, by rw [List.getElem?_eq_getElem hi, e]⟩
        obtain ⟨i, hi, hfirst⟩ : ∃ i : Nat, (ni (C.map List.length))[i]? = some m ∧ ∀ j < i, (ni (C.map List.length))[j]? ≠ some m := by
          have key : ∀ (n i : Nat), i ≤ n → (ni (C.map List.length))[i]? = some m → ∃ i : Nat, (ni (C.map List.length))[i]? = some m ∧ ∀ j < i, (ni (C.map List.length))[j]? ≠ some m := by
            intro n
            induction n with
            | zero =>
              intro i hi e
              exact ⟨i, e, fun j hj => by omega⟩
            | succ n ih =>
              intro i hi e
              by_cases hx : ∃ j < i, (ni (C.map List.length))[j]? = some m
              · obtain ⟨j, hj, e2⟩ := hx
                exact ih j (by omega) e2
              · exact ⟨i, e, fun j hj e2 => hx ⟨j, hj, e2⟩⟩
          obtain ⟨i, hi⟩ := hex
          exact key i i (Nat.le_refl _) hi
        obtain ⟨n, hn, rfl⟩ := ni_get hi
        rw [List.getElem?_map] at hn
        obtain ⟨b, hb, rfl⟩ : ∃ b, C[i]? = some b ∧ b.length = n := by
          cases e : C[i]? with
          | none =>
            rw [e] at hn
            cases hn
          | some b =>
            rw [e] at hn
            exact ⟨b, rfl, Option.some.inj hn⟩
        have at_ : ∀ (j : Nat) c, C[j]? = some c → (ni (C.map List.length))[j]? = some ((c.length : Nat) : Int) := fun j c e => by
          unfold ni
          rw [List.getElem?_map, List.getElem?_map, e]
          rfl
        have le_ : ∀ (j : Nat) c, C[j]? = some c → b.length ≤ c.length := fun j c e => by
          have := hle _ (List.mem_of_getElem? (at_ j c e))
          omega
        refine ⟨D, nv (C.map List.length), .int (b.length : Int), i, .int (b.length : Int), rfl, rfl, sq_same, rfl, flat_int _, int_at hi, ?_, fun j z hj hz => ?_, ?_⟩
        · show (((b.length : Nat) : Int) == ((b.length : Nat) : Int)) = true
          exact beq_self_eq_true _
        · obtain ⟨y, hy, rfl⟩ := int_get hz
          show (y == ((b.length : Nat) : Int)) = false
          rw [beq_eq_false_iff_ne]
          intro z
          exact hfirst j hj (by rw [hy, z])
        · refine q _ i b (s1.trans (same_new n1)) hb le_ fun j c hj e => ?_
          have h1 := le_ j c e
          have h2 : c.length ≠ b.length := fun z => hfirst j hj (by rw [at_ j c e, z])
          omega
/-! ### is_wall -/
def sp_is_wall : Sp := fun vs H Q _ => ∃ (a b : Addr) (ns : List Nat) (C : List (List Nat)), vs = [.ref a, .ref b] ∧ H a = some (.lst (nv ns)) ∧ RowsL H b C ∧ ns.length ≤ 262144 ∧ (∀ n ∈ ns, n < C.length) ∧
  ∀ t, (t = true ↔ Chain C ns) → Q (.bl t) H
theorem ok_is_wall (T : Txt K mg A) : Df P w K mg base 1 A.f_is_wall ["numbers", "compatible"] sp_is_wall := by
  refine Df.of T.F_is_wall sc_is_wall (fun vs H Q E h => ?_) (fun cdv Ar outer s H vs Q E hr h => ?_)
  · obtain ⟨a, b, ns, C, rfl, _⟩ := h
    rfl
  · obtain ⟨a, b, ns, C, rfl, ha, ⟨as, hb, hC⟩, hl, hin, q⟩ := h
    have hal := Paired.length hC
    refine ⟨_, (pss_cons (ps_for PassesOwn.never rfl (pi_range2 (by rfl) T.b_range (pa_cons pe_int (pa_cons (pe_callB call_len_seq (by rfl) T.b_len (by decide +kernel) (pa_cons (pv 0) pa_nil)) pa_nil))) (pg_name (i := 2) sc_is_wall.nd rfl (Or.inl rfl))
      (pss_one (ps_if (pt_cmpR op_notIn_seq (pe_ix (r := rIxL K) ix_list (pv 0) (pv 2) (fun _ _ => rfl)) (pe_ix (r := rIxL K) ix_list (pv 1) (pe_ix (r := rIxL K) ix_list (pv 0) (pe_op op_sub (pv 2) pe_int) (fun _ _ => rfl)) (fun _ _ => rfl)) (by rfl))
        (pss_one (ps_ret pe_bl))
        pss_nil)))
      (pss_one (ps_ret pe_bl))), ?_⟩
    refine ⟨_, rfl, a, _, rfl, .inl (sq_of ha), 1, _, rfl, ⟨by decide, by decide, ?_, ?_⟩, for_range (lo := 1) (n := (((nv ns).length : Int) - 1).toNat) (fun i σ H' => ∃ v : Option V, σ = [some (.ref a), some (.ref b), v] ∧ H' = H ∧ ∀ (p x y : Nat), p < i → ns[p]? = some x → ns[p + 1]? = some y → y ∈ C.getD x [])
      ⟨_, rfl, rfl, fun p x y hp => absurd hp (Nat.not_lt_zero _)⟩ ?_ ?_⟩
    · omega
    · rw [nv_len]
      omega
    · rintro i σ H' hi ⟨v, rfl, rfl, hall⟩
      rw [nv_len] at hi
      have h1 : i < ns.length := by omega
      have h2 : i + 1 < ns.length := by omega
      have e1 := List.getElem?_eq_getElem h1
      have e2 := List.getElem?_eq_getElem h2
      have hx := hin _ (List.mem_of_getElem? e1)
      obtain ⟨d, hd, hdr⟩ := paired_get hC (List.getElem?_eq_getElem hx)
      have hg : C.getD ns[i] [] = C[ns[i]] := by
        rw [List.getD_eq_getElem?_getD, List.getElem?_eq_getElem hx]
        rfl
      refine ⟨_, rfl, _, rfl, a, nv ns, ((i + 1 : Nat) : Int), _, rfl, congrArg V.int (by omega), sq_of ha, atI_nat (nv_at e2), _, rfl, _, rfl, _, rfl, _, _, rfl, rfl, a, nv ns, ((i : Nat) : Int), _, rfl, congrArg V.int (by omega), sq_of ha, atI_nat (nv_at e1),
        b, as.map V.ref, _, .ref d, rfl, rfl, sq_of hb, atI_nat (refs_at hd), d, nv C[ns[i]], rfl, .inl (sq_of hdr), rfl, flat_nv _, _, rfl, ?_⟩
      show if (!inV (V.int ((ns[i + 1] : Nat) : Int)) (nv C[ns[i]])) = true then _ else _
      rw [inV_nat]
      refine ite2 (fun e => ?_) (fun e => ?_)
      · refine q false ⟨fun z => absurd z Bool.false_ne_true, fun z => ?_⟩
        have := z i _ _ e1 e2
        rw [hg, ← List.contains_iff_mem] at this
        rw [this] at e
        cases e
      · refine ⟨_, rfl, rfl, fun p x y hp hx' hy' => ?_⟩
        by_cases hpi : p < i
        · exact hall p x y hpi hx' hy'
        · obtain rfl : p = i := by omega
          rw [e1] at hx'
          rw [e2] at hy'
          cases hx'
          cases hy'
          rw [hg, ← List.contains_iff_mem]
          simpa using e
    · rintro σ H' ⟨v, rfl, rfl, hall⟩
      refine q true ⟨fun _ p x y hx hy => hall p x y ?_ hx hy, fun _ => rfl⟩
      have := lt_of_get hy
      rw [nv_len]
      omega
end
end Jw
namespace Jw
open PySem PySem.Spec PyProof.Rows L2
/-- a number of stones, or None -/
def oV : Option Nat → V
  | none => .non
  | some n => .int (n : Int)
def fwV (ks : List Nat) (n : Nat) : List V := (List.range n).map fun m => oV (minAt ks m)
theorem fw_len (ks : List Nat) (n : Nat) : (fwV ks n).length = n := by
  unfold fwV
  rw [List.length_map, List.length_range]
theorem fw_at {ks : List Nat} {n m : Nat} (h : m < n) : (fwV ks n)[m]? = some (oV (minAt ks m)) := by
  unfold fwV
  rw [List.getElem?_map, List.getElem?_range h]
  rfl
theorem fw_more (ks : List Nat) (n : Nat) : fwV ks (n + 1) = fwV ks n ++ [oV (minAt ks n)] := by
  unfold fwV
  rw [List.range_succ, List.map_append]
  rfl
section
variable {P : Program} {w : World} {K : PySem.W.Frag} {mg : Str → Option Value} {base : Heap} {A : Adr}
/-! ### is_total -/
def sp_is_total : Sp := fun vs H Q _ => ∃ z : Int, vs = [.int z] ∧ Q (.bl (SrCommon.inRange z 0 60)) H
theorem ok_is_total (T : Txt K mg A) : Df P w K mg base 1 A.f_is_total ["number"] sp_is_total := by
  refine Df.of T.F_is_total sc_is_total (fun vs H Q E h => ?_) (fun cdv Ar outer s H vs Q E hr h => ?_)
  · obtain ⟨z, rfl, _⟩ := h
    rfl
  · obtain ⟨z, rfl, q⟩ := h
    refine ⟨_, (pss_one (ps_ret (pe_chain op_le op_le pe_int (pv 0) (pe_cst (by rfl) T.c_GREATEST_TOTAL)))), ?_⟩
    unfold SrCommon.inRange at q
    refine ⟨_, rfl, _, _, rfl, rfl, _, rfl, ite2 (fun e => ?_) (fun e => ?_)⟩
    · rw [e, Bool.true_and] at q
      exact ⟨_, _, rfl, rfl, q⟩
    · rw [Bool.eq_false_iff.mpr e, Bool.false_and] at q
      exact q
/-! ### fewest_stones -/
def sp_fewest_stones (K : PySem.W.Frag) : Sp := fun vs H Q _ => ∃ (b : Addr) (ks : List Nat), vs = [.ref b] ∧ SqL K H b (nv ks) ∧ Stones ks ∧
  ∀ H' p, Same H H' → H p = none → H' p = some (.lst (fwV ks 61)) → Q (.ref p) H'
theorem ok_fewest_stones (T : Txt K mg A) : Df P w K mg base 1 A.f_fewest_stones ["stone_lengths"] (sp_fewest_stones K) := by
  refine Df.of T.F_fewest_stones sc_fewest_stones (fun vs H Q E h => ?_) (fun cdv Ar outer s H vs Q E hr h => ?_)
  · obtain ⟨b, ks, rfl, _⟩ := h
    rfl
  · obtain ⟨b, ks, rfl, hB, hK, q⟩ := h
    refine ⟨_, (pss_cons (ps_set (i := 1) sc_fewest_stones.nd rfl (Or.inr rfl) (pe_lst (pa_cons pe_int pa_nil)))
      (pss_cons (ps_for PassesOwn.never rfl (pi_range2 (by rfl) T.b_range (pa_cons pe_int (pa_cons (pe_op op_add (pe_cst (by rfl) T.c_GREATEST_TOTAL) pe_int) pa_nil))) (pg_name (i := 2) sc_fewest_stones.nd rfl (Or.inr rfl))
      (pss_cons (ps_setLc (i := 3) (own := [("stone", 4)]) (g := gName 4) rfl sc_fewest_stones.nd rfl rfl (sw_true rfl rfl rfl (by decide +kernel)) (pi_list (pv 0)) (blkOk_by (N := ["stone_lengths", "fewest", "total", "counts", "stone"]) (sc := defScope s_fewest_stones) (by decide +kernel)) (fun _ _ _ _ _ => pg_name (i := 4) sc_fewest_stones.nd rfl (Or.inl rfl)) (fun _ _ _ _ _ => (pts_one (PW.pt (pw_and (pt_cmpR op_le (pv 4) (pv 2) (nomark _)) (pw_and1 (pt_cmpR op_notN (pe_ix (r := rIxL K) ix_list (pv 1) (pe_op op_sub (pv 2) (pv 4)) (fun _ _ => rfl)) pe_non (nomark _))))))) (fun _ _ _ _ _ => (pe_op op_add (pe_ix (r := rIxL K) ix_list (pv 1) (pe_op op_sub (pv 2) (pv 4)) (fun _ _ => rfl)) pe_int)))
        (pss_one (ps_expr (pe_bm PySem.F.plainAttrs_list PySem.F.slot_list_append PySem.F.type_list_append mt_append (pv 1) (pa_cons (pe_callBK (cr_minD rfl) (by rfl) T.b_min (by decide +kernel) (pa_cons (pv 3) pa_nil) (pk_cons pe_non pk_nil)) pa_nil))))))
      (pss_one (ps_ret (pv 1))))), ?_⟩
    refine ⟨(by show 1 ≤ sizeLine; decide), fun p np => ?_⟩
    refine ⟨_, _, rfl, rfl, 1, _, rfl, ⟨by decide, by decide, by decide, by decide⟩, for_range (lo := 1) (n := 60) (fun i σ H' => ∃ (v2 v3 v4 : Option V) (H1 : Hp), σ = [some (.ref b), some (.ref p), v2, v3, v4] ∧ Same H H1 ∧ H1 p = none ∧ H' = upd H1 p (.lst (fwV ks (i + 1))))
      ⟨_, _, _, H, rfl, Same.refl _, np, rfl⟩ ?_ ?_⟩
    · rintro i σ H' hi ⟨v2, v3, v4, H1, rfl, s1, n1, rfl⟩
      have sB : ∀ H2, Same (upd H1 p (.lst (fwV ks (i + 1)))) H2 → SqL K H2 b (nv ks) := fun H2 s2 => ((s1.trans (same_new n1)).trans s2).seq hB
      refine ⟨_, rfl, b, rfl, ⟨_, sB _ (Same.refl _)⟩, fun D nD => ?_⟩
      obtain ⟨nDp, nD1⟩ := upd_free nD
      refine lc_list (K := K) (a := b) (xs := nv ks) (fun j H' => ∃ H2, Same (upd H1 p (.lst (fwV ks (i + 1)))) H2 ∧ H2 D = none ∧ H' = upd H2 D (.lst (nv ((ks.take j).filterMap (ctAt ks (i + 1))))))
        ⟨_, Same.refl _, nD, rfl⟩ (fun j H' hj hp => ?_) ?_ ?_
      · obtain ⟨H2, s2, n2, rfl⟩ := hp
        exact sB _ (s2.trans (same_new n2))
      · rintro j x H' hj ⟨H2, s2, n2, rfl⟩
        obtain ⟨k, hk, rfl⟩ := nv_get hj
        have hk1 : 1 ≤ k := hK.s1 k (List.mem_of_getElem? hk)
        have jl : j < ks.length := lt_of_get hk
        have hp2 : (upd H2 D (.lst (nv ((ks.take j).filterMap (ctAt ks (i + 1)))))) p = some (.lst (fwV ks (i + 1))) := same_new n2 _ _ (s2 _ _ upd_same)
        have hacc : ((ks.take j).filterMap (ctAt ks (i + 1))).length ≤ 1000 := by
          have h1 := List.length_filterMap_le (ctAt ks (i + 1)) (ks.take j)
          rw [List.length_take] at h1
          have := hK.n4
          omega
        have stay : ctAt ks (i + 1) k = none → ∃ H2', Same (upd H1 p (.lst (fwV ks (i + 1)))) H2' ∧ H2' D = none ∧ upd H2 D (.lst (nv ((ks.take j).filterMap (ctAt ks (i + 1))))) = upd H2' D (.lst (nv ((ks.take (j + 1)).filterMap (ctAt ks (i + 1))))) := fun e => by
          refine ⟨H2, s2, n2, ?_⟩
          rw [take_more hk, List.filterMap_append, List.filterMap_cons_none e, List.filterMap_nil, List.append_nil]
        refine ⟨rfl, _, rfl, _, rfl, _, _, rfl, rfl, _, rfl, ite2 (fun e => ?_) (fun e => ?_)⟩
        · have hle : k ≤ i + 1 := by
            have := of_decide_eq_true e
            omega
          have hat : (fwV ks (i + 1))[i + 1 - k]? = some (oV (minAt ks (i + 1 - k))) := fw_at (by omega)
          refine ⟨_, rfl, _, rfl, _, rfl, _, _, rfl, rfl, p, _, ((i + 1 - k : Nat) : Int), _, rfl, congrArg V.int (by omega), sq_of hp2, atI_nat hat, ?_⟩
          cases hm : minAt ks (i + 1 - k) with
          | none =>
            refine ⟨rfl, _, rfl, ?_⟩
            exact stay (by
              unfold ctAt
              rw [if_pos hle, hm]
              rfl)
          | some n =>
            have hsome : ctAt ks (i + 1) k = some (n + 1) := by
              unfold ctAt
              rw [if_pos hle, hm]
              rfl
            rw [hm] at hat
            refine ⟨rfl, _, rfl, ?_⟩
            refine ⟨_, rfl, _, rfl, _, rfl, _, _, rfl, rfl, p, _, ((i + 1 - k : Nat) : Int), .int (n : Int), rfl, congrArg V.int (by omega), sq_of hp2, atI_nat hat, _, _, rfl, rfl, _, upd_same, ?_, H2, s2, n2, ?_⟩
            · rw [nv_len]
              exact small1000 hacc
            · rw [upd_upd, take_more hk, List.filterMap_append, List.filterMap_cons_some hsome, List.filterMap_nil, nv_app]
              rfl
        · have hgt : ¬ k ≤ i + 1 := fun z => e (decide_eq_true (by omega))
          exact stay (by unfold ctAt; rw [if_neg hgt])
      · rintro H' ⟨H2, s2, n2, rfl⟩
        rw [nv_len, List.take_length]
        have hp2 : (upd H2 D (.lst (nv (ks.filterMap (ctAt ks (i + 1)))))) p = some (.lst (fwV ks (i + 1))) := same_new n2 _ _ (s2 _ _ upd_same)
        have fin : ∀ v, v = oV (minAt ks (i + 1)) → ∃ (l : Addr) (xs : List V) (y : V), (V.ref p) = V.ref l ∧ [v] = [y] ∧ (upd H2 D (.lst (nv (ks.filterMap (ctAt ks (i + 1)))))) l = some (.lst xs) ∧ xs.length < sizeLine ∧
            ∃ (v2' v3' v4' : Option V) (H1' : Hp), ([some (.ref b), some (.ref p), some (.int (1 + (i : Int))), some (.ref D), v4] : List (Option V)) = [some (.ref b), some (.ref p), v2', v3', v4'] ∧ Same H H1' ∧ H1' p = none ∧ upd (upd H2 D (.lst (nv (ks.filterMap (ctAt ks (i + 1)))))) l (.lst (xs ++ [y])) = upd H1' p (.lst (fwV ks (i + 1 + 1))) := fun v hv => by
          refine ⟨p, _, v, rfl, rfl, hp2, ?_, _, _, _, del (upd H2 D (.lst (nv (ks.filterMap (ctAt ks (i + 1)))))) p, rfl, s1.trans (same_del n1 (s2.trans (same_new n2))), del_at, ?_⟩
          · rw [fw_len]
            exact big_ok (by omega)
          · rw [upd_del, fw_more ks (i + 1), hv]
        have L := least_is hK.s1 (i + 1) (by omega)
        refine ⟨_, rfl, .inl ⟨rfl, _, sq_of hp2⟩, _, rfl, D, ni (ks.filterMap (ctAt ks (i + 1))), .non, rfl, rfl, sq_of upd_same, fun z => ?_, fun m hm hle => ?_⟩
        · have hz : ks.filterMap (ctAt ks (i + 1)) = [] := by
            have h2 := congrArg List.length z
            unfold ni at h2
            rw [List.length_map] at h2
            exact List.length_eq_zero_iff.mp h2
          rw [hz] at L
          exact fin _ (congrArg oV L.none).symm
        · obtain ⟨n, hn, rfl⟩ := List.mem_map.mp hm
          exact fin _ (congrArg oV (L.some hn fun y hy => by have := hle _ (List.mem_map.mpr ⟨y, hy, rfl⟩); omega)).symm
    · rintro σ H' ⟨v2, v3, v4, H1, rfl, s1, n1, rfl⟩
      exact ⟨_, rfl, q _ p (s1.trans (same_new n1)) np upd_same⟩
end
end Jw
namespace Jw
open PySem PySem.Spec PyProof.Rows L2
theorem Good.rows_small {w : Sr112.Wall} (g : Good w) : ∀ r ∈ Sr112.rows w, r.length ≤ 1000 ∧ r.sum ≤ 1000 := fun r h => by
  have h1 := g.row_len h
  have h2 := g.row_sum h
  omega
theorem mat_in (R : List (List Nat)) (h : R.length ≤ 262144) : ∀ b ∈ matC R, b.length ≤ 262144 ∧ ∀ i ∈ b, i < (matC R).length := fun b hb => by
  unfold matC at hb
  obtain ⟨r, _, rfl⟩ := List.mem_map.mp hb
  refine ⟨Nat.le_trans (matR_len R r) h, fun i hi => ?_⟩
  rw [matC_len]
  exact (mem_matR (r := r).mp hi).1
theorem range_is {z lo hi : Int} : SrCommon.inRange z lo hi = true ↔ lo ≤ z ∧ z ≤ hi := by
  unfold SrCommon.inRange
  rw [Bool.and_eq_true, decide_eq_true_eq, decide_eq_true_eq]
theorem range_not {z lo hi : Int} (h : ¬ (lo ≤ z ∧ z ≤ hi)) : SrCommon.inRange z lo hi = false := Bool.eq_false_iff.mpr fun e => h (range_is.mp e)
section
variable {P : Program} {w : World} {K : PySem.W.Frag} {mg : Str → Option Value} {base : Heap} {A : Adr}
/-! ### Masonry.wall_count -/
def sp_Masonry_wall_count (C : Addr) : Sp := fun vs H Q _ => ∃ (a : Addr) (z : Int) (w : Sr112.Wall), vs = [.ref a, .int z] ∧ QA C w (.wallCount z) a H Q
theorem ok_Masonry_wall_count (T : Txt K mg A) (D_Masonry_rows : Df P w K mg base 3 A.f_Masonry_rows ["self"] (sp_Masonry_rows A.c_Masonry)) (D_compatible_rows : Df P w K mg base 3 A.f_compatible_rows ["rows"] sp_compatible_rows)
    (D_count_walls : Df P w K mg base 2 A.f_count_walls ["height", "compatible"] (sp_count_walls K)) : Df P w K mg base 4 A.f_Masonry_wall_count ["self", "height"] (sp_Masonry_wall_count A.c_Masonry) := by
  refine Df.of T.F_Masonry_wall_count sc_Masonry_wall_count (fun vs H Q E h => ?_) (fun cdv Ar outer s H vs Q E hr h => ?_)
  · obtain ⟨a, z, w, rfl, _⟩ := h
    rfl
  · obtain ⟨a, z, w, rfl, ⟨dx, st, hA⟩, g, q⟩ := h
    refine ⟨_, (pss_cons (ps_if (pt_not (pt_chain op_le op_le pe_int (pv 1) (pe_cst (by rfl) T.c_GREATEST_HEIGHT)))
      (pss_one (ps_ret (pe_lst (pa_cons (pe_cst (by rfl) T.c_OUT_OF_RANGE) pa_nil))))
      pss_nil)
      (pss_one (ps_ret (pe_lst (pa_cons (pe_cal D_count_walls (hr.mono (by decide)) (by rfl) T.g_count_walls (pa_cons (pv 1) (pa_cons (pe_cal D_compatible_rows (hr.mono (by decide)) (by rfl) T.g_compatible_rows (pa_cons (pe_mth0 (pv 0) T.cl_Masonry T.m_Masonry_rows D_Masonry_rows (hr.mono (by decide))) pa_nil)) pa_nil))) pa_nil))))), ?_⟩
    have out : ¬ (0 ≤ z ∧ z ≤ 8) → ∀ c, H c = none → Q (.ref c) (upd H c (.lst [.int (-22)])) := fun h c nc => by
      refine q _ c (same_new nc) nc ?_
      have e : resOf w (.wallCount z) = [-22] := by
        unfold resOf Sr112.perform
        simp only [range_not h, if_pos]
        rfl
      rw [upd_same, e]
      rfl
    refine ⟨_, rfl, _, _, rfl, rfl, _, rfl, ite2 (fun e => ?_) (fun e => ?_)⟩
    · have h0 : 0 ≤ z := of_decide_eq_true e
      refine ⟨_, _, rfl, rfl, _, rfl, ite2 (fun e1 => ?_) (fun e1 => ?_)⟩
      · have h1 : ¬ z ≤ 8 := by simpa using e1
        exact ⟨(by show 1 ≤ sizeLine; decide), fun c nc => out (fun h => h1 h.2) c nc⟩
      · have h1 : z ≤ 8 := by simpa using e1
        obtain ⟨n, rfl⟩ : ∃ n : Nat, z = (n : Int) := ⟨z.toNat, by omega⟩
        have lw := g.rows_le
        refine ⟨_, rfl, _, rfl, a, dx, _, rfl, hA.1, mF_none _ _ _ (by decide +kernel) (by decide +kernel), a, dx, st, w, rfl, hA, g, fun H1 p s1 hR => ⟨p, _, rfl, hR, lw, g.rows_small, fun H2 p2 s2 _ hC =>
          ⟨p2, n, _, rfl, hC, by omega, by rw [matC_len]; exact lw, mat_in _ lw, fun H3 s3 => ⟨(by show 1 ≤ sizeLine; decide), fun c nc => ?_⟩⟩⟩⟩
        refine q _ c (((s1.trans s2).trans s3).trans (same_new nc)) (((s1.trans s2).trans s3).free nc) ?_
        have e : resOf w (.wallCount (n : Int)) = [(Sr112.wallCount w n : Int)] := by
          unfold resOf Sr112.perform
          simp only [range_is.mpr ⟨h0, h1⟩, Bool.true_eq_false, if_false]
          rfl
        rw [upd_same, e, cw_is]
        rfl
    · have h0 : ¬ 0 ≤ z := by simpa using e
      refine ⟨_, rfl, ?_⟩
      exact ⟨(by show 1 ≤ sizeLine; decide), fun c nc => out (fun h => h0 h.1) c nc⟩
/-! ### Masonry.first_wall -/
def sp_Masonry_first_wall (C : Addr) : Sp := fun vs H Q _ => ∃ (a : Addr) (z : Int) (w : Sr112.Wall), vs = [.ref a, .int z] ∧ QA C w (.firstWall z) a H Q
theorem ok_Masonry_first_wall (T : Txt K mg A) (D_Masonry_rows : Df P w K mg base 3 A.f_Masonry_rows ["self"] (sp_Masonry_rows A.c_Masonry)) (D_compatible_rows : Df P w K mg base 3 A.f_compatible_rows ["rows"] sp_compatible_rows)
    (D_find_first_wall : Df P w K mg base 2 A.f_find_first_wall ["height", "compatible"] sp_find_first_wall) (D_counted : Df P w K mg base 1 A.f_counted ["numbers"] sp_counted) : Df P w K mg base 4 A.f_Masonry_first_wall ["self", "height"] (sp_Masonry_first_wall A.c_Masonry) := by
  refine Df.of T.F_Masonry_first_wall sc_Masonry_first_wall (fun vs H Q E h => ?_) (fun cdv Ar outer s H vs Q E hr h => ?_)
  · obtain ⟨a, z, w, rfl, _⟩ := h
    rfl
  · obtain ⟨a, z, w, rfl, ⟨dx, st, hA⟩, g, q⟩ := h
    refine ⟨_, (pss_cons (ps_if (pt_not (pt_chain op_le op_le pe_int (pv 1) (pe_cst (by rfl) T.c_GREATEST_HEIGHT)))
      (pss_one (ps_ret (pe_lst (pa_cons (pe_cst (by rfl) T.c_OUT_OF_RANGE) pa_nil))))
      pss_nil)
      (pss_cons (ps_set (i := 2) sc_Masonry_first_wall.nd rfl (Or.inl rfl) (pe_cal D_find_first_wall (hr.mono (by decide)) (by rfl) T.g_find_first_wall (pa_cons (pv 1) (pa_cons (pe_cal D_compatible_rows (hr.mono (by decide)) (by rfl) T.g_compatible_rows (pa_cons (pe_mth0 (pv 0) T.cl_Masonry T.m_Masonry_rows D_Masonry_rows (hr.mono (by decide))) pa_nil)) pa_nil))))
      (pss_cons (ps_if (pt_cmpR op_eq (pe_callB call_len_seq (by rfl) T.b_len (by decide +kernel) (pa_cons (pv 2) pa_nil)) pe_int (nomark _))
      (pss_one (ps_ret (pe_lst (pa_cons (pe_cst (by rfl) T.c_NONE_SUCH) pa_nil))))
      pss_nil)
      (pss_one (ps_ret (pe_cal D_counted (hr.mono (by decide)) (by rfl) T.g_counted (pa_cons (pv 2) pa_nil))))))), ?_⟩
    have out : ¬ (1 ≤ z ∧ z ≤ 8) → ∀ c, H c = none → Q (.ref c) (upd H c (.lst [.int (-22)])) := fun h c nc => by
      refine q _ c (same_new nc) nc ?_
      have e : resOf w (.firstWall z) = [-22] := by
        unfold resOf Sr112.perform
        simp only [range_not h, if_pos]
        rfl
      rw [upd_same, e]
      rfl
    refine ⟨_, rfl, _, _, rfl, rfl, _, rfl, ite2 (fun e => ?_) (fun e => ?_)⟩
    · have h0 : 1 ≤ z := of_decide_eq_true e
      refine ⟨_, _, rfl, rfl, _, rfl, ite2 (fun e1 => ?_) (fun e1 => ?_)⟩
      · have h1 : ¬ z ≤ 8 := by simpa using e1
        exact ⟨(by show 1 ≤ sizeLine; decide), fun c nc => out (fun h => h1 h.2) c nc⟩
      · have h1 : z ≤ 8 := by simpa using e1
        obtain ⟨n, rfl⟩ : ∃ n : Nat, z = ((n + 1 : Nat) : Int) := ⟨z.toNat - 1, by omega⟩
        have lw := g.rows_le
        have hr1 : SrCommon.inRange ((n + 1 : Nat) : Int) 1 8 = true := range_is.mpr ⟨h0, h1⟩
        refine ⟨_, rfl, _, rfl, a, dx, _, rfl, hA.1, mF_none _ _ _ (by decide +kernel) (by decide +kernel), a, dx, st, w, rfl, hA, g, fun H1 p s1 hR => ⟨p, _, rfl, hR, lw, g.rows_small, fun H2 p2 s2 _ hC =>
          ⟨p2, n + 1, _, rfl, hC, by omega, by omega, by rw [matC_len]; exact lw, mat_goes _, fun H3 p3 s3 _ hp3 => ?_⟩⟩⟩
        have ss := (s1.trans s2).trans s3
        refine ⟨_, rfl, p3, _, rfl, .inl (sq_of hp3), rfl, _, rfl, ite2 (fun e2 => ?_) (fun e2 => ?_)⟩
        · have e3 : ((nv (fwC (matC (Sr112.rows w)) (n + 1))).length : Int) = 0 := V.int.inj (of_decide_eq_true e2)
          rw [nv_len] at e3
          have e4 : fwC (matC (Sr112.rows w)) (n + 1) = [] := List.length_eq_zero_iff.mp (by omega)
          have e5 := (none_iff w n).mpr e4
          refine ⟨(by show 1 ≤ sizeLine; decide), fun c nc => q _ c (ss.trans (same_new nc)) (ss.free nc) ?_⟩
          have e : resOf w (.firstWall ((n + 1 : Nat) : Int)) = [-33] := by
            unfold resOf Sr112.perform
            simp only [hr1, Bool.true_eq_false, if_false]
            rw [Int.toNat_natCast, if_pos e5]
            rfl
          rw [upd_same, e]
          rfl
        · have e4 : fwC (matC (Sr112.rows w)) (n + 1) ≠ [] := fun x => e2 (decide_eq_true (by rw [x]; rfl))
          have e5 : ¬ Sr112.wallCount w (n + 1) = 0 := fun x => e4 ((none_iff w n).mp x)
          have e6 : (fwC (matC (Sr112.rows w)) (n + 1)).length = n + 1 := by
            unfold fwC at e4 ⊢
            split
            · rename_i x
              rw [x] at e4
              exact absurd rfl e4
            · exact wu_len _ _ _
          refine ⟨_, rfl, p3, _, rfl, hp3, ?_, fun H4 p4 s4 np4 hp4 => ?_⟩
          · rw [nv_len, e6]
            omega
          · refine q H4 p4 (ss.trans s4) (ss.free np4) ?_
            have e : resOf w (.firstWall ((n + 1 : Nat) : Int)) = ((n + 1 : Nat) : Int) :: ni (fwC (matC (Sr112.rows w)) (n + 1)) := by
              unfold resOf Sr112.perform
              simp only [hr1, Bool.true_eq_false, if_false]
              rw [Int.toNat_natCast, if_neg e5, first_is]
              rfl
            rw [hp4, e, nv_len, e6]
            rfl
    · have h0 : ¬ 1 ≤ z := by simpa using e
      refine ⟨_, rfl, ?_⟩
      exact ⟨(by show 1 ≤ sizeLine; decide), fun c nc => out (fun h => h0 h.1) c nc⟩
end
end Jw
namespace Jw
open PySem PySem.Spec PyProof.Rows L2
/-- a comprehension over a range with a step -/
theorem lc_steps {lo c : Int} {n : Nat} {g : TG} {tt : TT} {te : TE} {vs : List Nat} {σ : L2.St} {H1 : Hp} {D : Addr} {Fin : Hp → Prop} (Pv : Nat → Hp → Prop) (a0 : Pv 0 (upd H1 D (.lst [])))
    (turn : ∀ i H, i < n → Pv i H → g (.int (lo + (i : Nat) * c)) (wipe σ vs) H fun σ2 H2 => wipe σ2 vs = wipe σ vs ∧ tt σ2 H2 fun b H3 =>
      if b = true then te σ2 H3 fun y H4 => ∃ acc, H4 D = some (.lst acc) ∧ acc.length < sizeLine ∧ Pv (i + 1) (upd H4 D (.lst (acc ++ [y]))) else Pv (i + 1) H3) (fin : ∀ H, Pv n H → Fin H) :
    ∃ W : Nat → Nat → Hp → Prop, (∃ m, W 0 m (upd H1 D (.lst []))) ∧ ∀ i m H, W i m H →
      ((Itc lo c n).stop i H ∧ Fin H) ∨ ((Itc lo c n).go i H ∧ ∃ Nx : Hp → Prop, (∀ H', Nx H' → ∃ m', m' < m ∧ W (i + 1) m' H') ∧ ∀ x H', (Itc lo c n).yld i H x H' → g x (wipe σ vs) H' fun σ2 H2 => wipe σ2 vs = wipe σ vs ∧ tt σ2 H2 fun b H3 =>
        if b = true then te σ2 H3 fun y H4 => ∃ acc, H4 D = some (.lst acc) ∧ acc.length < sizeLine ∧ Nx (upd H4 D (.lst (acc ++ [y]))) else Nx H3) := by
  refine ⟨fun i m H => m = n - i ∧ i ≤ n ∧ Pv i H, ⟨n - 0, rfl, Nat.zero_le _, a0⟩, fun i m H w => ?_⟩
  obtain ⟨rfl, hi, p⟩ := w
  rcases Nat.lt_or_ge i n with h | h
  · refine .inr ⟨h, Pv (i + 1), fun H' p' => ⟨n - (i + 1), by omega, rfl, h, p'⟩, fun x H' y => ?_⟩
    obtain ⟨rfl, rfl⟩ := y
    exact turn i _ h p
  · obtain rfl : i = n := by omega
    exact .inl ⟨h, fin H p⟩
theorem cut_front (xs : List V) (n : Nat) : cutV xs none (some (n : Int)) = xs.take n := by
  unfold cutV
  rw [HT.sIx_none, HT.sIx_nat, List.drop_zero, Nat.sub_zero]
  by_cases h : n ≤ xs.length
  · rw [Nat.min_eq_left h]
  · rw [Nat.min_eq_right (by omega), List.take_of_length_le (Nat.le_refl _), List.take_of_length_le (by omega)]
theorem isN_dec (o : Option Nat) : decide (oV o = V.non) = o.isNone := by
  cases o with
  | none => rfl
  | some n => rfl
section
variable {P : Program} {w : World} {K : PySem.W.Frag} {mg : Str → Option Value} {base : Heap} {A : Adr}
/-! ### Masonry.is_possible_length -/
def sp_Masonry_is_possible_length (C : Addr) : Sp := fun vs H Q _ => ∃ (a : Addr) (z : Int) (w : Sr112.Wall), vs = [.ref a, .int z] ∧ QA C w (.isPossibleLength z) a H Q
theorem ok_Masonry_is_possible_length (T : Txt K mg A) (D_is_total : Df P w K mg base 1 A.f_is_total ["number"] sp_is_total) (D_yes_or_no : Df P w K mg base 1 A.f_yes_or_no ["truth"] sp_yes_or_no)
    (D_fewest_stones : Df P w K mg base 1 A.f_fewest_stones ["stone_lengths"] (sp_fewest_stones K)) : Df P w K mg base 2 A.f_Masonry_is_possible_length ["self", "m"] (sp_Masonry_is_possible_length A.c_Masonry) := by
  refine Df.of T.F_Masonry_is_possible_length sc_Masonry_is_possible_length (fun vs H Q E h => ?_) (fun cdv Ar outer s H vs Q E hr h => ?_)
  · obtain ⟨a, z, w, rfl, _⟩ := h
    rfl
  · obtain ⟨a, z, w, rfl, ⟨dx, st, hA⟩, g, q⟩ := h
    refine ⟨_, (pss_cons (ps_if (pt_not (pt_val (pe_cal D_is_total (hr.mono (by decide)) (by rfl) T.g_is_total (pa_cons (pv 1) pa_nil))))
      (pss_one (ps_ret (pe_lst (pa_cons (pe_cst (by rfl) T.c_OUT_OF_RANGE) pa_nil))))
      pss_nil)
      (pss_one (ps_ret (pe_cal D_yes_or_no (hr.mono (by decide)) (by rfl) T.g_yes_or_no (pa_cons (pe_cmpR op_notN (pe_ix (r := rIxL K) ix_list (pe_cal D_fewest_stones (hr.mono (by decide)) (by rfl) T.g_fewest_stones (pa_cons (pe_fld (pv 0) rfl) pa_nil)) (pv 1) (fun _ _ => rfl)) pe_non (nomark _)) pa_nil))))), ?_⟩
    refine ⟨_, rfl, z, rfl, _, rfl, ite2 (fun e => ?_) (fun e => ?_)⟩
    · have e' : SrCommon.inRange z 0 60 = false := by simpa using e
      refine ⟨(by show 1 ≤ sizeLine; decide), fun c nc => q _ c (same_new nc) nc ?_⟩
      have e2 : resOf w (.isPossibleLength z) = [-22] := by
        unfold resOf Sr112.perform
        simp only [e', if_pos]
        rfl
      rw [upd_same, e2]
      rfl
    · have e' : SrCommon.inRange z 0 60 = true := by simpa using e
      have hz := range_is.mp e'
      obtain ⟨n, rfl⟩ : ∃ n : Nat, z = (n : Int) := ⟨z.toNat, by omega⟩
      refine ⟨_, rfl, a, A.c_Masonry, dx, _, _, rfl, hA.1, T.cl_Masonry, T.n_Masonry_stone_lengths, mF_stones _ _, st, w.stoneLengths, rfl, sq_of hA.2, g.stones, fun H1 p s1 _ hp => ?_⟩
      refine ⟨_, rfl, p, _, (n : Int), _, rfl, rfl, sq_of hp, atI_nat (fw_at (m := n) (by omega)), rfl, _, rfl, fun H2 p2 s2 np2 hp2 => ?_⟩
      refine q H2 p2 (s1.trans s2) (s1.free np2) ?_
      have e2 : resOf w (.isPossibleLength (n : Int)) = [SrCommon.boolToInt (minAt w.stoneLengths n).isSome] := by
        unfold resOf Sr112.perform
        simp only [e', Bool.true_eq_false, if_false]
        rfl
      rw [hp2, e2]
      have e3 : (!decide (oV (minAt w.stoneLengths n) = V.non)) = (minAt w.stoneLengths n).isSome := by
        rw [isN_dec]
        cases minAt w.stoneLengths n <;> rfl
      rw [e3]
      rfl
/-! ### Masonry.min_stones -/
def sp_Masonry_min_stones (C : Addr) : Sp := fun vs H Q _ => ∃ (a : Addr) (z : Int) (w : Sr112.Wall), vs = [.ref a, .int z] ∧ QA C w (.minStones z) a H Q
theorem ok_Masonry_min_stones (T : Txt K mg A) (D_is_total : Df P w K mg base 1 A.f_is_total ["number"] sp_is_total)
    (D_fewest_stones : Df P w K mg base 1 A.f_fewest_stones ["stone_lengths"] (sp_fewest_stones K)) : Df P w K mg base 2 A.f_Masonry_min_stones ["self", "m"] (sp_Masonry_min_stones A.c_Masonry) := by
  refine Df.of T.F_Masonry_min_stones sc_Masonry_min_stones (fun vs H Q E h => ?_) (fun cdv Ar outer s H vs Q E hr h => ?_)
  · obtain ⟨a, z, w, rfl, _⟩ := h
    rfl
  · obtain ⟨a, z, w, rfl, ⟨dx, st, hA⟩, g, q⟩ := h
    refine ⟨_, (pss_cons (ps_if (pt_not (pt_val (pe_cal D_is_total (hr.mono (by decide)) (by rfl) T.g_is_total (pa_cons (pv 1) pa_nil))))
      (pss_one (ps_ret (pe_lst (pa_cons (pe_cst (by rfl) T.c_OUT_OF_RANGE) pa_nil))))
      pss_nil)
      (pss_cons (ps_set (i := 2) sc_Masonry_min_stones.nd rfl (Or.inl rfl) (pe_ix (r := rIxL K) ix_list (pe_cal D_fewest_stones (hr.mono (by decide)) (by rfl) T.g_fewest_stones (pa_cons (pe_fld (pv 0) rfl) pa_nil)) (pv 1) (fun _ _ => rfl)))
      (pss_cons (ps_if (pt_cmpR op_isN (pv 2) pe_non (nomark _))
      (pss_one (ps_ret (pe_lst (pa_cons (pe_cst (by rfl) T.c_NONE_SUCH) pa_nil))))
      pss_nil)
      (pss_one (ps_ret (pe_lst (pa_cons (pv 2) pa_nil))))))), ?_⟩
    refine ⟨_, rfl, z, rfl, _, rfl, ite2 (fun e => ?_) (fun e => ?_)⟩
    · have e' : SrCommon.inRange z 0 60 = false := by simpa using e
      refine ⟨(by show 1 ≤ sizeLine; decide), fun c nc => q _ c (same_new nc) nc ?_⟩
      have e2 : resOf w (.minStones z) = [-22] := by
        unfold resOf Sr112.perform
        simp only [e', if_pos]
        rfl
      rw [upd_same, e2]
      rfl
    · have e' : SrCommon.inRange z 0 60 = true := by simpa using e
      have hz := range_is.mp e'
      obtain ⟨n, rfl⟩ : ∃ n : Nat, z = (n : Int) := ⟨z.toNat, by omega⟩
      refine ⟨_, rfl, a, A.c_Masonry, dx, _, _, rfl, hA.1, T.cl_Masonry, T.n_Masonry_stone_lengths, mF_stones _ _, st, w.stoneLengths, rfl, sq_of hA.2, g.stones, fun H1 p s1 _ hp => ?_⟩
      refine ⟨_, rfl, p, _, (n : Int), _, rfl, rfl, sq_of hp, atI_nat (fw_at (m := n) (by omega)), ?_⟩
      refine ⟨_, rfl, rfl, _, rfl, ?_⟩
      have ew : Sr112.minStones w n = minAt w.stoneLengths n := rfl
      cases hm : minAt w.stoneLengths n with
      | none =>
        rw [hm] at ew
        refine ⟨(by show 1 ≤ sizeLine; decide), fun c nc => q _ c (s1.trans (same_new nc)) (s1.free nc) ?_⟩
        have e2 : resOf w (.minStones (n : Int)) = [-33] := by
          unfold resOf Sr112.perform
          simp only [e', Bool.true_eq_false, if_false]
          rw [Int.toNat_natCast, ew]
          rfl
        rw [upd_same, e2]
        rfl
      | some k =>
        rw [hm] at ew
        refine ⟨_, rfl, (by show 1 ≤ sizeLine; decide), fun c nc => q _ c (s1.trans (same_new nc)) (s1.free nc) ?_⟩
        have e2 : resOf w (.minStones (n : Int)) = [(k : Int)] := by
          unfold resOf Sr112.perform
          simp only [e', Bool.true_eq_false, if_false]
          rw [Int.toNat_natCast, ew]
          rfl
        rw [upd_same, e2]
        rfl
/-! ### Masonry.impossible_lengths -/
def sp_Masonry_impossible_lengths (C : Addr) : Sp := fun vs H Q _ => ∃ (a : Addr) (w : Sr112.Wall), vs = [.ref a] ∧ QA C w .impossibleLengths a H Q
theorem ok_Masonry_impossible_lengths (T : Txt K mg A) (D_fewest_stones : Df P w K mg base 1 A.f_fewest_stones ["stone_lengths"] (sp_fewest_stones K)) : Df P w K mg base 2 A.f_Masonry_impossible_lengths ["self"] (sp_Masonry_impossible_lengths A.c_Masonry) := by
  refine Df.of T.F_Masonry_impossible_lengths sc_Masonry_impossible_lengths (fun vs H Q E h => ?_) (fun cdv Ar outer s H vs Q E hr h => ?_)
  · obtain ⟨a, w, rfl, _⟩ := h
    rfl
  · obtain ⟨a, w, rfl, ⟨dx, st, hA⟩, g, q⟩ := h
    refine ⟨_, (pss_cons (ps_set (i := 1) sc_Masonry_impossible_lengths.nd rfl (Or.inr rfl) (pe_cal D_fewest_stones (hr.mono (by decide)) (by rfl) T.g_fewest_stones (pa_cons (pe_fld (pv 0) rfl) pa_nil)))
      (pss_cons (ps_setLc (i := 2) (own := [("m", 3)]) (g := gName 3) rfl sc_Masonry_impossible_lengths.nd rfl rfl (sw_true rfl rfl rfl (by decide +kernel)) (pi_range3 rfl T.b_range (pa_cons (pe_cst (by rfl) T.c_GREATEST_TOTAL) (pa_cons (pe_un un_neg pe_int) (pa_cons (pe_un un_neg pe_int) pa_nil)))) (blkOk_by (N := ["self", "fewest", "lengths", "m"]) (sc := defScope s_Masonry_impossible_lengths) (by decide +kernel)) (fun _ _ _ _ _ => pg_name (i := 3) sc_Masonry_impossible_lengths.nd rfl (Or.inl rfl)) (fun _ _ _ _ _ => (pts_one (pt_cmpR op_isN (pe_ix (r := rIxL K) ix_list (pv 1) (pv 3) (fun _ _ => rfl)) pe_non (nomark _)))) (fun _ _ _ _ _ => (pv 3)))
      (pss_one (ps_ret (pe_op op_cat (pe_lst (pa_cons (pe_callB call_len_seq (by rfl) T.b_len (by decide +kernel) (pa_cons (pv 2) pa_nil)) pa_nil)) (pe_slice sl_list (pv 2) po_none (po_some (pe_cst (by rfl) T.c_MOST_LENGTHS_TOLD)))))))), ?_⟩
    refine ⟨_, rfl, a, A.c_Masonry, dx, _, _, rfl, hA.1, T.cl_Masonry, T.n_Masonry_stone_lengths, mF_stones _ _, st, w.stoneLengths, rfl, sq_of hA.2, g.stones, fun H1 p s1 _ hp => ?_⟩
    -- lengths = [m for m in range(GREATEST_TOTAL, -1, -1) if fewest[m] is None]
    refine ⟨1, rfl, 1, rfl, 60, -1, -1, 61, rfl, RgC.neg (by decide) (by decide) (by decide) (by decide), fun D nD => ?_⟩
    refine lc_steps (lo := 60) (c := -1) (n := 61) (fun j H' => ∃ H2, Same H1 H2 ∧ H2 D = none ∧ H' = upd H2 D (.lst (nv ((downs.take j).filter fun m => (minAt w.stoneLengths m).isNone))))
      ⟨H1, Same.refl _, nD, rfl⟩ ?_ ?_
    · rintro j H' hj ⟨H2, s2, n2, rfl⟩
      have hd := downs_at hj
      have hp2 := same_new (o := .lst (nv ((downs.take j).filter fun m => (minAt w.stoneLengths m).isNone))) n2 _ _ (s2 _ _ hp)
      have hx : (60 + ((j : Nat) : Int) * -1) = ((60 - j : Nat) : Int) := by omega
      rw [hx]
      refine ⟨rfl, _, rfl, _, rfl, p, _, ((60 - j : Nat) : Int), _, rfl, rfl, sq_of hp2, atI_nat (fw_at (m := 60 - j) (by omega)), rfl, _, rfl, ?_⟩
      show if decide (oV (minAt w.stoneLengths (60 - j)) = V.non) = true then _ else _
      rw [isN_dec, take_more hd, List.filter_append, List.filter_cons]
      have hl : ((downs.take j).filter fun m => (minAt w.stoneLengths m).isNone).length ≤ 61 := by
        refine Nat.le_trans (List.length_filter_le _ _) ?_
        rw [List.length_take]
        exact Nat.le_trans (Nat.min_le_right _ _) (Nat.le_of_eq downs_len)
      refine ite2 (fun e => ?_) (fun e => ?_)
      · refine ⟨_, rfl, _, upd_same, ?_, H2, s2, n2, ?_⟩
        · rw [nv_len]
          exact small1000 (by omega)
        · rw [upd_upd, if_pos e, List.filter_nil, nv_app]
          rfl
      · refine ⟨H2, s2, n2, ?_⟩
        rw [if_neg e, List.filter_nil, List.append_nil]
    · rintro H' ⟨H2, s2, n2, rfl⟩
      rw [List.take_of_length_le (Nat.le_of_eq downs_len)]
      have ss := s1.trans (s2.trans (same_new (o := .lst (nv (downs.filter fun m => (minAt w.stoneLengths m).isNone))) n2))
      have hl : (downs.filter fun m => (minAt w.stoneLengths m).isNone).length ≤ 61 := Nat.le_trans (List.length_filter_le _ _) (Nat.le_of_eq downs_len)
      refine ⟨_, rfl, D, _, rfl, .inl sq_same, (by show 1 ≤ sizeLine; decide), fun c nc => ?_⟩
      have hD : (upd (upd H2 D (.lst (nv (downs.filter fun m => (minAt w.stoneLengths m).isNone)))) c (.lst [.int ((nv (downs.filter fun m => (minAt w.stoneLengths m).isNone)).length : Int)])) D = some (.lst (nv (downs.filter fun m => (minAt w.stoneLengths m).isNone))) := same_new nc _ _ upd_same
      refine ⟨_, rfl, 20, rfl, D, _, rfl, sq_of hD, fun c2 nc2 => ?_⟩
      rw [show (20 : Int) = ((20 : Nat) : Int) from rfl, cut_front]
      obtain ⟨nc2c, _⟩ := upd_free nc2
      refine ⟨c, c2, _, _, rfl, rfl, same_new nc2 _ _ upd_same, upd_same, ?_, fun c3 nc3 => ?_⟩
      · rw [List.length_take, nv_len]
        show 1 + min 20 _ ≤ sizeLine
        exact Nat.le_of_lt (small1000 (by omega))
      · have s4 := ((ss.trans (same_new nc)).trans (same_new (o := .lst ((nv (downs.filter fun m => (minAt w.stoneLengths m).isNone)).take 20)) nc2))
        refine q _ c3 (s4.trans (same_new nc3)) (s4.free nc3) ?_
        have e2 : resOf w .impossibleLengths = ((downs.filter fun m => (minAt w.stoneLengths m).isNone).length : Int) :: ni ((downs.filter fun m => (minAt w.stoneLengths m).isNone).take 20) := by
          rw [← downs_filter_len, ← downs_filter]
          rfl
        rw [upd_same, e2, nv_len]
        generalize (downs.filter fun m => (minAt w.stoneLengths m).isNone) = l
        have e3 : (nv l).take 20 = nv (l.take 20) := by
          unfold nv ni
          rw [List.map_take, List.map_take]
        rw [e3]
        rfl
end
end Jw
namespace Jw
open PySem PySem.Spec PyProof.Rows L2
section
variable {P : Program} {w : World} {K : PySem.W.Frag} {mg : Str → Option Value} {base : Heap} {A : Adr}
/-! ### Masonry.loneliest_row -/
def sp_Masonry_loneliest_row (C : Addr) : Sp := fun vs H Q _ => ∃ (a : Addr) (w : Sr112.Wall), vs = [.ref a] ∧ QA C w .loneliestRow a H Q
theorem ok_Masonry_loneliest_row (T : Txt K mg A) (D_Masonry_rows : Df P w K mg base 3 A.f_Masonry_rows ["self"] (sp_Masonry_rows A.c_Masonry)) (D_compatible_rows : Df P w K mg base 3 A.f_compatible_rows ["rows"] sp_compatible_rows)
    (D_find_loneliest : Df P w K mg base 1 A.f_find_loneliest ["compatible"] sp_find_loneliest) : Df P w K mg base 4 A.f_Masonry_loneliest_row ["self"] (sp_Masonry_loneliest_row A.c_Masonry) := by
  refine Df.of T.F_Masonry_loneliest_row sc_Masonry_loneliest_row (fun vs H Q E h => ?_) (fun cdv Ar outer s H vs Q E hr h => ?_)
  · obtain ⟨a, w, rfl, _⟩ := h
    rfl
  · obtain ⟨a, w, rfl, ⟨dx, st, hA⟩, g, q⟩ := h
    refine ⟨_, (pss_cons (ps_set (i := 1) sc_Masonry_loneliest_row.nd rfl (Or.inl rfl) (pe_cal D_compatible_rows (hr.mono (by decide)) (by rfl) T.g_compatible_rows (pa_cons (pe_mth0 (pv 0) T.cl_Masonry T.m_Masonry_rows D_Masonry_rows (hr.mono (by decide))) pa_nil)))
      (pss_cons (ps_if (pt_cmpR op_eq (pe_callB call_len_seq (by rfl) T.b_len (by decide +kernel) (pa_cons (pv 1) pa_nil)) pe_int (nomark _))
      (pss_one (ps_ret (pe_lst (pa_cons (pe_cst (by rfl) T.c_NONE_SUCH) pa_nil))))
      pss_nil)
      (pss_cons (ps_set (i := 2) sc_Masonry_loneliest_row.nd rfl (Or.inl rfl) (pe_cal D_find_loneliest (hr.mono (by decide)) (by rfl) T.g_find_loneliest (pa_cons (pv 1) pa_nil)))
      (pss_one (ps_ret (pe_lst (pa_cons (pv 2) (pa_cons (pe_callB call_len_seq (by rfl) T.b_len (by decide +kernel) (pa_cons (pe_ix (r := rIxL K) ix_list (pv 1) (pv 2) (fun _ _ => rfl)) pa_nil)) pa_nil)))))))), ?_⟩
    have lw := g.rows_le
    refine ⟨_, rfl, a, dx, _, rfl, hA.1, mF_none _ _ _ (by decide +kernel) (by decide +kernel), a, dx, st, w, rfl, hA, g, fun H1 p s1 hR => ⟨p, _, rfl, hR, lw, g.rows_small, fun H2 p2 s2 _ hC => ?_⟩⟩
    obtain ⟨as, hp2, hCA⟩ := id hC
    have hal := Paired.length hCA
    have ss := s1.trans s2
    refine ⟨_, rfl, p2, _, rfl, .inl (sq_of hp2), rfl, _, rfl, ite2 (fun e => ?_) (fun e => ?_)⟩
    · have e1 : ((as.map V.ref).length : Int) = 0 := V.int.inj (of_decide_eq_true e)
      rw [List.length_map, hal, matC_len] at e1
      refine ⟨(by show 1 ≤ sizeLine; decide), fun c nc => q _ c (ss.trans (same_new nc)) (ss.free nc) ?_⟩
      have e2 : resOf w .loneliestRow = [-33] := by
        unfold resOf Sr112.perform
        simp only [lon_none (w := w) (by omega)]
        rfl
      rw [upd_same, e2]
      rfl
    · have e1 : 0 < (matC (Sr112.rows w)).length := by
        rcases Nat.eq_zero_or_pos (matC (Sr112.rows w)).length with z | z
        · exact absurd (decide_eq_true (by rw [List.length_map, hal, z]; rfl)) e
        · exact z
      refine ⟨_, rfl, p2, _, rfl, hC, e1, by rw [matC_len]; exact lw, fun H3 i b s3 hb hle hlt => ?_⟩
      obtain ⟨d, hd, hdr⟩ := paired_get hCA hb
      refine ⟨_, rfl, _, rfl, _, rfl, p2, as.map V.ref, (i : Int), .ref d, rfl, rfl, sq_of (s3 _ _ hp2), atI_nat (refs_at hd), d, nv b, rfl, .inl (sq_of (s3 _ _ hdr)), (by show 2 ≤ sizeLine; decide), fun c nc => ?_⟩
      have s4 := ss.trans s3
      refine q _ c (s4.trans (same_new nc)) (s4.free nc) ?_
      have e2 : resOf w .loneliestRow = [(i : Int), (b.length : Int)] := by
        unfold resOf Sr112.perform
        simp only [lon_is w hb hle hlt]
      rw [upd_same, e2, nv_len]
      rfl
/-! ### Masonry.check_wall -/
def sp_Masonry_check_wall (C : Addr) : Sp := fun vs H Q _ => ∃ (a b : Addr) (zs : List Int) (w : Sr112.Wall), vs = [.ref a, .ref b] ∧ H b = some (.lst (zs.map V.int)) ∧ zs.length ≤ 262144 ∧ QA C w (.checkWall zs) a H Q
theorem ok_Masonry_check_wall (T : Txt K mg A) (D_Masonry_rows : Df P w K mg base 3 A.f_Masonry_rows ["self"] (sp_Masonry_rows A.c_Masonry)) (D_compatible_rows : Df P w K mg base 3 A.f_compatible_rows ["rows"] sp_compatible_rows)
    (D_is_wall : Df P w K mg base 1 A.f_is_wall ["numbers", "compatible"] sp_is_wall) (D_yes_or_no : Df P w K mg base 1 A.f_yes_or_no ["truth"] sp_yes_or_no) : Df P w K mg base 4 A.f_Masonry_check_wall ["self", "numbers"] (sp_Masonry_check_wall A.c_Masonry) := by
  refine Df.of T.F_Masonry_check_wall sc_Masonry_check_wall (fun vs H Q E h => ?_) (fun cdv Ar outer s H vs Q E hr h => ?_)
  · obtain ⟨a, b, zs, w, rfl, _⟩ := h
    rfl
  · obtain ⟨a, b, zs, w, rfl, hb, hzl, ⟨dx, st, hA⟩, g, q⟩ := h
    refine ⟨_, (pss_cons (ps_set (i := 2) sc_Masonry_check_wall.nd rfl (Or.inl rfl) (pe_mth0 (pv 0) T.cl_Masonry T.m_Masonry_rows D_Masonry_rows (hr.mono (by decide))))
      (pss_cons (ps_for PassesOwn.never rfl (pi_list (pv 1)) (pg_name (i := 3) sc_Masonry_check_wall.nd rfl (Or.inl rfl))
      (pss_one (ps_if (pt_not (pt_chain op_le op_lt pe_int (pv 3) (pe_callB call_len_seq (by rfl) T.b_len (by decide +kernel) (pa_cons (pv 2) pa_nil))))
        (pss_one (ps_ret (pe_lst (pa_cons (pe_cst (by rfl) T.c_OUT_OF_RANGE) pa_nil))))
        pss_nil)))
      (pss_one (ps_ret (pe_cal D_yes_or_no (hr.mono (by decide)) (by rfl) T.g_yes_or_no (pa_cons (pe_cal D_is_wall (hr.mono (by decide)) (by rfl) T.g_is_wall (pa_cons (pv 1) (pa_cons (pe_cal D_compatible_rows (hr.mono (by decide)) (by rfl) T.g_compatible_rows (pa_cons (pv 2) pa_nil)) pa_nil))) pa_nil)))))), ?_⟩
    have lw := g.rows_le
    refine ⟨_, rfl, a, dx, _, rfl, hA.1, mF_none _ _ _ (by decide +kernel) (by decide +kernel), a, dx, st, w, rfl, hA, g, fun H1 p s1 hR => ?_⟩
    obtain ⟨as, hp, hRA⟩ := id hR
    have hal := Paired.length hRA
    have hb1 := s1 _ _ hb
    have out : ∀ z ∈ zs, ¬ (0 ≤ z ∧ z < ((as.map V.ref).length : Int)) → ∀ c, H1 c = none → Q (.ref c) (upd H1 c (.lst [.int (-22)])) := fun z hz h c nc => by
      refine q _ c (s1.trans (same_new nc)) (s1.free nc) ?_
      have e0 : Sr112.rowAt w z = none := row_none (w := w) (by rw [← hal]; rw [List.length_map] at h; exact h)
      have e : resOf w (.checkWall zs) = [-22] := by
        unfold resOf Sr112.perform
        simp only [wall_not_asked hz e0, if_pos]
        rfl
      rw [upd_same, e]
      rfl
    refine ⟨_, rfl, b, rfl, ⟨_, sq_of hb1⟩, for_list (K := K) (a := b) (xs := zs.map V.int) (fun i σ H' => ∃ v : Option V, σ = [some (.ref a), some (.ref b), some (.ref p), v] ∧ H' = H1 ∧ ∀ z ∈ zs.take i, 0 ≤ z ∧ z < ((Sr112.rows w).length : Int))
      ⟨_, rfl, rfl, by simp⟩ (fun i σ H' hi hp => ?_) ?_ ?_⟩
    · obtain ⟨v, rfl, rfl, _⟩ := hp
      exact sq_of hb1
    · rintro i x σ H' hi ⟨v, rfl, rfl, hall⟩
      obtain ⟨z, hz, rfl⟩ := int_get hi
      have hzm := List.mem_of_getElem? hz
      refine ⟨_, rfl, _, _, rfl, rfl, _, rfl, ite2 (fun e => ?_) (fun e => ?_)⟩
      · have h0 : 0 ≤ z := of_decide_eq_true e
        refine ⟨_, rfl, p, _, rfl, .inl (sq_of hp), _, _, rfl, rfl, _, rfl, ite2 (fun e1 => ?_) (fun e1 => ?_)⟩
        · have h1 : ¬ z < ((as.map V.ref).length : Int) := by simpa using e1
          exact ⟨(by show 1 ≤ sizeLine; decide), fun c nc => out z hzm (fun h => h1 h.2) c nc⟩
        · have h1 : z < ((as.map V.ref).length : Int) := by simpa using e1
          rw [List.length_map, hal] at h1
          refine ⟨_, rfl, rfl, fun y hy => ?_⟩
          rw [take_more hz] at hy
          rcases List.mem_append.mp hy with hy | hy
          · exact hall y hy
          · rw [List.mem_singleton.mp hy]
            exact ⟨h0, h1⟩
      · have h0 : ¬ 0 ≤ z := by simpa using e
        refine ⟨_, rfl, ?_⟩
        exact ⟨(by show 1 ≤ sizeLine; decide), fun c nc => out z hzm (fun h => h0 h.1) c nc⟩
    · rintro σ H' ⟨v, rfl, rfl, hall⟩
      rw [List.length_map, List.take_length] at hall
      obtain ⟨ns, rfl, hns⟩ := nats_of hall
      have hnl : ns.length ≤ 262144 := by
        rw [List.length_map] at hzl
        exact hzl
      refine ⟨_, rfl, _, rfl, p, _, rfl, hR, lw, g.rows_small, fun H2 p2 s2 _ hC => ?_⟩
      refine ⟨b, p2, ns, _, rfl, s2 _ _ hb1, hC, hnl, by rw [matC_len]; exact hns, fun t ht => ⟨t, rfl, fun H3 p3 s3 np3 hp3 => ?_⟩⟩
      have ss := (s1.trans s2).trans s3
      refine q H3 p3 ss ((s1.trans s2).free np3) ?_
      obtain ⟨w1, w2⟩ := wall_asked (w := w) hns
      have et : t = stacked (ns.map fun i => (Sr112.rows w).getD i []) := by
        rw [Bool.eq_iff_iff, ht, stacked_iff _ ns hns]
      have e : resOf w (.checkWall (ns.map fun (k : Nat) => (k : Int))) = [SrCommon.boolToInt t] := by
        unfold resOf Sr112.perform
        simp only [w1, Bool.false_eq_true, if_false]
        rw [w2, et]
        rfl
      rw [hp3, e]
      rfl
/-! ### Masonry.describe -/
def sp_Masonry_describe (C : Addr) : Sp := fun vs H Q _ => ∃ (a : Addr) (w : Sr112.Wall), vs = [.ref a] ∧ QA C w .describe a H Q
theorem ok_Masonry_describe (T : Txt K mg A) (D_counted : Df P w K mg base 1 A.f_counted ["numbers"] sp_counted) : Df P w K mg base 2 A.f_Masonry_describe ["self"] (sp_Masonry_describe A.c_Masonry) := by
  refine Df.of T.F_Masonry_describe sc_Masonry_describe (fun vs H Q E h => ?_) (fun cdv Ar outer s H vs Q E hr h => ?_)
  · obtain ⟨a, w, rfl, _⟩ := h
    rfl
  · obtain ⟨a, w, rfl, ⟨dx, st, hA⟩, g, q⟩ := h
    refine ⟨_, (pss_one (ps_ret (pe_op op_cat (pe_lst (pa_cons (pe_fld (pv 0) rfl) pa_nil)) (pe_cal D_counted (hr.mono (by decide)) (by rfl) T.g_counted (pa_cons (pe_fld (pv 0) rfl) pa_nil))))), ?_⟩
    refine ⟨_, rfl, a, A.c_Masonry, dx, _, _, rfl, hA.1, T.cl_Masonry, T.n_Masonry_length, mF_length _ _, (by show 1 ≤ sizeLine; decide), fun c nc => ?_⟩
    have hA1 := hA.mono (same_new (o := .lst [.int (w.length : Int)]) nc)
    have hl := g.n4
    refine ⟨_, rfl, a, A.c_Masonry, dx, _, _, rfl, hA1.1, T.cl_Masonry, T.n_Masonry_stone_lengths, mF_stones _ _, st, nv w.stoneLengths, rfl, hA1.2, by rw [nv_len]; omega, fun H2 c2 s2 nc2 hc2 => ?_⟩
    refine ⟨c, c2, _, _, rfl, rfl, s2 _ _ upd_same, hc2, ?_, fun c3 nc3 => ?_⟩
    · show 1 + (V.int ((nv w.stoneLengths).length : Int) :: nv w.stoneLengths).length ≤ sizeLine
      rw [List.length_cons, nv_len]
      exact Nat.le_of_lt (small1000 (by omega))
    · have s4 := (same_new (o := .lst [.int (w.length : Int)]) nc).trans s2
      refine q _ c3 (s4.trans (same_new nc3)) (s4.free nc3) ?_
      rw [upd_same, nv_len]
      rfl
end
end Jw
namespace Jw
open PySem PySem.Spec PyProof.Rows L2
theorem contains_int (l : List Nat) {k : Int} (h : 0 ≤ k) : decide (k ∈ ni l) = l.contains k.toNat := by
  rw [Bool.eq_iff_iff, decide_eq_true_eq, List.contains_iff_mem]
  exact ⟨fun e => ((mem_cast l k).mp e).2, fun e => (mem_cast l k).mpr ⟨h, e⟩⟩
theorem erase_at {l : List Nat} {k : Nat} (h : k ∈ l) : ∃ j : Nat, (ni l)[j]? = some (k : Int) ∧ (∀ m : Nat, m < j → (ni l)[m]? ≠ some (k : Int)) ∧ (ni l).eraseIdx j = ni (l.erase k) := by
  induction l with
  | nil => simp at h
  | cons a r ih =>
    by_cases e : a = k
    · subst e
      refine ⟨0, rfl, fun m hm => by omega, ?_⟩
      rw [List.erase_cons_head]
      rfl
    · have hr : k ∈ r := by
        rcases List.mem_cons.mp h with h | h
        · exact absurd h.symm e
        · exact h
      obtain ⟨j, h1, h2, h3⟩ := ih hr
      refine ⟨j + 1, h1, fun m hm => ?_, ?_⟩
      · cases m with
        | zero =>
          intro q
          have : ((a : Nat) : Int) = (k : Int) := Option.some.inj q
          exact e (by omega)
        | succ m => exact h2 m (by omega)
      · rw [List.erase_cons_tail (by simpa using e)]
        show (a : Int) :: (ni r).eraseIdx j = (a : Int) :: ni (r.erase k)
        rw [h3]
section
variable {P : Program} {w : World} {K : PySem.W.Frag} {mg : Str → Option Value} {base : Heap} {A : Adr}
/-! ### Masonry.add_stone_length -/
def sp_Masonry_add_stone_length (C : Addr) : Sp := fun vs H Q _ => ∃ (a dx s : Addr) (z : Int) (w : Sr112.Wall), vs = [.ref a, .int z] ∧ SA C w (.addStoneLength z) a dx s H Q
theorem ok_Masonry_add_stone_length (T : Txt K mg A) (D_is_length : Df P w K mg base 1 A.f_is_length ["number"] sp_is_length) : Df P w K mg base 2 A.f_Masonry_add_stone_length ["self", "k"] (sp_Masonry_add_stone_length A.c_Masonry) := by
  refine Df.of T.F_Masonry_add_stone_length sc_Masonry_add_stone_length (fun vs H Q E h => ?_) (fun cdv Ar outer s H vs Q E hr h => ?_)
  · obtain ⟨a, dx, s, z, w, rfl, _⟩ := h
    rfl
  · obtain ⟨a, dx, st, z, w, rfl, hA, g, q⟩ := h
    refine ⟨_, (pss_cons (ps_if (pt_not (pt_val (pe_cal D_is_length (hr.mono (by decide)) (by rfl) T.g_is_length (pa_cons (pv 1) pa_nil))))
      (pss_one (ps_ret (pe_lst (pa_cons (pe_cst (by rfl) T.c_OUT_OF_RANGE) pa_nil))))
      pss_nil)
      (pss_cons (ps_if (pt_cmpR op_in_seq (pv 1) (pe_fld (pv 0) rfl) (by rfl))
      (pss_one (ps_ret (pe_lst (pa_cons (pe_cst (by rfl) T.c_ALREADY_THERE) pa_nil))))
      pss_nil)
      (pss_cons (ps_if (pt_cmpR op_eq (pe_callB call_len_seq (by rfl) T.b_len (by decide +kernel) (pa_cons (pe_fld (pv 0) rfl) pa_nil)) (pe_cst (by rfl) T.c_MOST_STONE_LENGTHS) (nomark _))
      (pss_one (ps_ret (pe_lst (pa_cons (pe_cst (by rfl) T.c_TOO_MANY) pa_nil))))
      pss_nil)
      (pss_cons (ps_fld (pv 0) (pe_callB cr_sorted (by rfl) T.b_sorted (by decide +kernel) (pa_cons (pe_op op_cat (pe_fld (pv 0) rfl) (pe_lst (pa_cons (pv 1) pa_nil))) pa_nil)) rfl)
      (pss_one (ps_ret (pe_lst (pa_cons (pe_callB call_len_seq (by rfl) T.b_len (by decide +kernel) (pa_cons (pe_fld (pv 0) rfl) pa_nil)) pa_nil)))))))), ?_⟩
    have out : ∀ (e : Int), nextW w (.addStoneLength z) = w → resOf w (.addStoneLength z) = [e] → ∀ c, H c = none → Q (.ref c) (upd H c (.lst [.int e])) := fun e h1 h2 c nc => by
      refine q _ c st ?_ (.inl rfl) (fun b o hb _ _ => same_new nc _ _ hb) nc ?_
      · rw [h1]
        exact hA.mono (same_new nc)
      · rw [upd_same, h2]
        rfl
    have hsa : st ≠ a := ne_of hA.2 hA.1 (by intro z; cases z)
    refine ⟨_, rfl, z, rfl, _, rfl, ite2 (fun e => ?_) (fun e => ?_)⟩
    · have e' : SrCommon.inRange z 1 9 = false := by simpa using e
      refine ⟨(by show 1 ≤ sizeLine; decide), out _ ?_ ?_⟩
      · unfold nextW Sr112.perform
        simp only [e', if_pos]
        rfl
      · unfold resOf Sr112.perform
        simp only [e', if_pos]
        rfl
    · have e' : SrCommon.inRange z 1 9 = true := by simpa using e
      have hz := range_nat e'
      refine ⟨_, rfl, _, rfl, a, A.c_Masonry, dx, _, _, rfl, hA.1, T.cl_Masonry, T.n_Masonry_stone_lengths, mF_stones _ _, st, nv w.stoneLengths, rfl, .inl (sq_of hA.2), rfl, flat_nv _, _, rfl, ?_⟩
      show if inV (V.int z) ((ni w.stoneLengths).map V.int) = true then _ else _
      rw [inV_int, contains_int _ (by omega)]
      refine ite2 (fun e1 => ?_) (fun e1 => ?_)
      · refine ⟨(by show 1 ≤ sizeLine; decide), out _ ?_ ?_⟩
        · unfold nextW Sr112.perform
          simp only [e', Bool.true_eq_false, if_false, e1, if_true]
          rfl
        · unfold resOf Sr112.perform
          simp only [e', Bool.true_eq_false, if_false, e1, if_true]
          rfl
      · have e1' : w.stoneLengths.contains z.toNat = false := by simpa using e1
        refine ⟨_, rfl, a, A.c_Masonry, dx, _, _, rfl, hA.1, T.cl_Masonry, T.n_Masonry_stone_lengths, mF_stones _ _, st, nv w.stoneLengths, rfl, .inl (sq_of hA.2), rfl, _, rfl, ite2 (fun e2 => ?_) (fun e2 => ?_)⟩
        · have e2' : (((nv w.stoneLengths).length : Nat) : Int) = 4 := V.int.inj (of_decide_eq_true e2)
          rw [nv_len] at e2'
          have e3 : Sr112.maxStoneLengths ≤ w.stoneLengths.length := by
            show 4 ≤ w.stoneLengths.length
            omega
          refine ⟨(by show 1 ≤ sizeLine; decide), out _ ?_ ?_⟩
          · unfold nextW Sr112.perform
            simp only [e', Bool.true_eq_false, if_false, e1', e3, if_true]
            rfl
          · unfold resOf Sr112.perform
            simp only [e', Bool.true_eq_false, if_false, e1', e3, if_true]
            rfl
        · have e3 : ¬ Sr112.maxStoneLengths ≤ w.stoneLengths.length := fun h => by
            have h4 := g.n4
            have h4' : 4 ≤ w.stoneLengths.length := h
            refine e2 (decide_eq_true ?_)
            rw [nv_len, show w.stoneLengths.length = 4 by omega]
            rfl
          have e3' : w.stoneLengths.length < 4 := Nat.lt_of_not_le e3
          have hn : z.toNat ∉ w.stoneLengths := fun h => e1 (List.contains_iff_mem.mpr h)
          -- self.stone_lengths = sorted(self.stone_lengths + [k])
          refine ⟨_, rfl, a, A.c_Masonry, dx, _, _, rfl, hA.1, T.cl_Masonry, T.n_Masonry_stone_lengths, mF_stones _ _, _, rfl, (by show 1 ≤ sizeLine; decide), fun c nc => ?_⟩
          have hst2 := same_new (o := .lst [V.int z]) nc _ _ hA.2
          refine ⟨st, c, nv w.stoneLengths, [.int z], rfl, rfl, hst2, upd_same, ?_, fun d nd => ?_⟩
          · rw [nv_len]
            show w.stoneLengths.length + 1 ≤ sizeLine
            exact Nat.le_of_lt (small1000 (by omega))
          · obtain ⟨hdc, nd'⟩ := upd_free nd
            have happ : nv w.stoneLengths ++ [V.int z] = (ni (w.stoneLengths ++ [z.toNat])).map V.int := by
              rw [show [V.int z] = nv [z.toNat] by
                show [V.int z] = [V.int ((z.toNat : Nat) : Int)]
                rw [show ((z.toNat : Nat) : Int) = z by omega], ← nv_app]
              rfl
            rw [happ]
            refine ⟨d, ni (w.stoneLengths ++ [z.toNat]), rfl, sq_same, ?_, fun ns p hperm hpair np => ?_⟩
            · show (List.map _ _).length < 64
              rw [List.length_map, List.length_append]
              show w.stoneLengths.length + 1 < 64
              omega
            · have hns := sorted_is g.up hn hperm hpair
              obtain ⟨hpd, np1⟩ := upd_free np
              obtain ⟨hpc, np2⟩ := upd_free np1
              have sm : Same H (upd (upd (upd H c (.lst [V.int z])) d (.lst ((ni (w.stoneLengths ++ [z.toNat])).map V.int))) p (.lst (ns.map V.int))) := ((same_new nc).trans (same_new nd)).trans (same_new np)
              have hpa : a ≠ p := ne_of_none hA.1 np2
              refine ⟨_, rfl, a, A.c_Masonry, dx, _, rfl, sm _ _ hA.1, T.cl_Masonry, T.n_Masonry_stone_lengths, (by show 2 < 1000; decide), ?_⟩
              rw [mF_putS]
              -- return [len(self.stone_lengths)]
              refine ⟨_, rfl, a, A.c_Masonry, dx, _, _, rfl, upd_same, T.cl_Masonry, T.n_Masonry_stone_lengths, mF_stones _ _, p, ns.map V.int, rfl, .inl (sq_of ?_), (by show 1 ≤ sizeLine; decide), fun u nu => ?_⟩
              · rw [upd_ne hpa.symm, upd_same]
              · obtain ⟨hua, nu'⟩ := upd_free nu
                have e4 : nextW w (.addStoneLength z) = { w with stoneLengths := Sr112.insertLength z.toNat w.stoneLengths } := by
                  unfold nextW Sr112.perform
                  simp only [e', Bool.true_eq_false, if_false, e1', e3]
                  rfl
                have e5 : resOf w (.addStoneLength z) = [((w.stoneLengths.length + 1 : Nat) : Int)] := by
                  unfold resOf Sr112.perform
                  simp only [e', Bool.true_eq_false, if_false, e1', e3]
                  rfl
                refine q _ u p ?_ (.inr np2) (fun b o hb n1 _ => ?_) (sm.free nu') ?_
                · rw [e4]
                  refine ⟨?_, ?_⟩
                  · rw [upd_ne hua.symm, upd_same]
                  · refine same_new nu _ _ ?_
                    rw [upd_ne hpa.symm, upd_same]
                    show some (HO.lst (ns.map V.int)) = some (HO.lst ((ni (Sr112.insertLength z.toNat w.stoneLengths)).map V.int))
                    rw [hns]
                    rfl
                · refine same_new nu _ _ ?_
                  rw [upd_ne n1]
                  exact sm _ _ hb
                · rw [upd_same, e5, hns, List.length_map, List.length_map, insert_len]
                  rfl
/-! ### Masonry.remove_stone_length -/
def sp_Masonry_remove_stone_length (C : Addr) : Sp := fun vs H Q _ => ∃ (a dx s : Addr) (z : Int) (w : Sr112.Wall), vs = [.ref a, .int z] ∧ SA C w (.removeStoneLength z) a dx s H Q
theorem ok_Masonry_remove_stone_length (T : Txt K mg A) : Df P w K mg base 1 A.f_Masonry_remove_stone_length ["self", "k"] (sp_Masonry_remove_stone_length A.c_Masonry) := by
  refine Df.of T.F_Masonry_remove_stone_length sc_Masonry_remove_stone_length (fun vs H Q E h => ?_) (fun cdv Ar outer s H vs Q E hr h => ?_)
  · obtain ⟨a, dx, s, z, w, rfl, _⟩ := h
    rfl
  · obtain ⟨a, dx, st, z, w, rfl, hA, g, q⟩ := h
    refine ⟨_, (pss_cons (ps_if (pt_cmpR op_notIn_seq (pv 1) (pe_fld (pv 0) rfl) (by rfl))
      (pss_one (ps_ret (pe_lst (pa_cons (pe_cst (by rfl) T.c_NOT_THERE) pa_nil))))
      pss_nil)
      (pss_cons (ps_expr (pe_bm PySem.F.plainAttrs_list PySem.F.slot_list_remove PySem.F.type_list_remove mt_remove (pe_fld (pv 0) rfl) (pa_cons (pv 1) pa_nil)))
      (pss_one (ps_ret (pe_lst (pa_cons (pe_callB call_len_seq (by rfl) T.b_len (by decide +kernel) (pa_cons (pe_fld (pv 0) rfl) pa_nil)) pa_nil)))))), ?_⟩
    have hsa : st ≠ a := ne_of hA.2 hA.1 (by intro z; cases z)
    refine ⟨_, rfl, _, rfl, a, A.c_Masonry, dx, _, _, rfl, hA.1, T.cl_Masonry, T.n_Masonry_stone_lengths, mF_stones _ _, st, nv w.stoneLengths, rfl, .inl (sq_of hA.2), rfl, flat_nv _, _, rfl, ?_⟩
    show if (!inV (V.int z) ((ni w.stoneLengths).map V.int)) = true then _ else _
    rw [inV_int]
    refine ite2 (fun e1 => ?_) (fun e1 => ?_)
    · have e2 : z ∉ ni w.stoneLengths := by simpa using e1
      have hor : z < 1 ∨ w.stoneLengths.contains z.toNat = false := by
        by_cases h : z < 1
        · exact .inl h
        · refine .inr ?_
          rw [← contains_int _ (by omega)]
          exact decide_eq_false e2
      refine ⟨(by show 1 ≤ sizeLine; decide), fun c nc => q _ c st ?_ (.inl rfl) (fun b o hb _ _ => same_new nc _ _ hb) nc ?_⟩
      · have e3 : nextW w (.removeStoneLength z) = w := by
          unfold nextW Sr112.perform
          simp only [if_pos hor]
          rfl
        rw [e3]
        exact hA.mono (same_new nc)
      · have e3 : resOf w (.removeStoneLength z) = [-2] := by
          unfold resOf Sr112.perform
          simp only [if_pos hor]
          rfl
        rw [upd_same, e3]
        rfl
    · have e2 : z ∈ ni w.stoneLengths := by simpa using e1
      have h3 := (mem_cast _ _).mp e2
      have h4 := g.ge _ h3.2
      have hz : ((z.toNat : Nat) : Int) = z := by omega
      have hor : ¬ (z < 1 ∨ w.stoneLengths.contains z.toNat = false) := by
        rw [List.contains_iff_mem.mpr h3.2]
        rintro (h | h)
        · omega
        · cases h
      obtain ⟨j, k1, k2, k3⟩ := erase_at h3.2
      rw [hz] at k1 k2
      refine ⟨_, rfl, a, A.c_Masonry, dx, _, _, rfl, hA.1, T.cl_Masonry, T.n_Masonry_stone_lengths, mF_stones _ _, .inl ⟨rfl, _, sq_of hA.2⟩, _, rfl, st, ni w.stoneLengths, z, j, rfl, rfl, hA.2, k1, k2, ?_⟩
      rw [k3]
      have hA2 : (upd H st (.lst ((ni (w.stoneLengths.erase z.toNat)).map V.int))) a = some (.ins A.c_Masonry dx (mF w.length st)) := by
        rw [upd_ne hsa.symm]
        exact hA.1
      refine ⟨_, rfl, a, A.c_Masonry, dx, _, _, rfl, hA2, T.cl_Masonry, T.n_Masonry_stone_lengths, mF_stones _ _, st, _, rfl, .inl (sq_of upd_same), (by show 1 ≤ sizeLine; decide), fun c nc => ?_⟩
      obtain ⟨hcs, nc'⟩ := upd_free nc
      refine q _ c st ?_ (.inl rfl) (fun b o hb _ n2 => ?_) nc' ?_
      · have e3 : nextW w (.removeStoneLength z) = { w with stoneLengths := w.stoneLengths.erase z.toNat } := by
          unfold nextW Sr112.perform
          simp only [if_neg hor]
          rfl
        rw [e3]
        refine ⟨same_new nc _ _ hA2, same_new nc _ _ upd_same⟩
      · refine same_new nc _ _ ?_
        rw [upd_ne n2]
        exact hb
      · have e3 : resOf w (.removeStoneLength z) = [((w.stoneLengths.length - 1 : Nat) : Int)] := by
          unfold resOf Sr112.perform
          simp only [if_neg hor]
          rfl
        rw [upd_same, e3, List.length_map]
        show some (HO.lst [V.int (((ni (w.stoneLengths.erase z.toNat)).length : Nat) : Int)]) = _
        unfold ni
        rw [List.length_map, List.length_erase_of_mem h3.2]
        rfl
end
end Jw
namespace Jw
open PySem PySem.Spec PyProof.Rows L2
/-! ### the calls, one by one -/
theorem rows_len : ∀ {k : Nat} {r : List Int} {xs : List (List Int)} {t : List Int}, PyFlat.rows k r = some (xs, t) → xs.length = k
  | 0, r, xs, t, h => by
    cases h
    rfl
  | k + 1, r, xs, t, h => by
    unfold PyFlat.rows at h
    cases e : PyFlat.row r with
    | none =>
      rw [e] at h
      cases h
    | some w =>
      rw [e] at h
      obtain ⟨x, s⟩ := w
      simp only at h
      cases e' : PyFlat.rows k s with
      | none =>
        rw [e'] at h
        cases h
      | some w' =>
        rw [e'] at h
        obtain ⟨ys, t'⟩ := w'
        cases h
        rw [List.length_cons, rows_len e']
/-- the first call of what is left -/
theorem calls_cons {f : Nat} {p : Int} {r : List Int} {cs : List (List (List Int))} (h : PyFlat.calls PySr112.shape f (p :: r) = some cs) :
    ∃ (f' n k : Nat) (xs : List (List Int)) (t : List Int) (ds : List (List (List Int))), PySr112.shape p = some (n, k) ∧ n ≤ r.length ∧ PyFlat.rows k (r.drop n) = some (xs, t) ∧ PyFlat.calls PySr112.shape f' t = some ds ∧ cs = ((p :: r.take n) :: xs) :: ds := by
  cases f with
  | zero => cases h
  | succ f =>
    unfold PyFlat.calls at h
    cases e : PyFlat.call PySr112.shape (p :: r) with
    | none =>
      rw [e] at h
      cases h
    | some w =>
      rw [e] at h
      obtain ⟨c, t⟩ := w
      simp only at h
      cases e' : PyFlat.calls PySr112.shape f t with
      | none =>
        rw [e'] at h
        cases h
      | some ds =>
        rw [e'] at h
        cases h
        unfold PyFlat.call at e
        simp only at e
        cases es : PySr112.shape p with
        | none =>
          rw [es] at e
          cases e
        | some nk =>
          rw [es] at e
          obtain ⟨n, k⟩ := nk
          simp only at e
          by_cases hl : r.length < n
          · rw [if_pos hl] at e
            cases e
          · rw [if_neg hl] at e
            cases er : PyFlat.rows k (r.drop n) with
            | none =>
              rw [er] at e
              cases e
            | some w2 =>
              rw [er] at e
              obtain ⟨xs, t2⟩ := w2
              cases e
              exact ⟨f, n, k, xs, t, ds, rfl, by omega, er, e', rfl⟩
theorem calls_nil {f : Nat} {cs : List (List (List Int))} (h : PyFlat.calls PySr112.shape f [] = some cs) : cs = [] := by
  cases f <;> cases h <;> rfl
theorem tab_kinds : ∀ (j n k : Nat), j < 17 → tab[j]? = some [(n : Int), (k : Int)] → (n = 1 ∧ k = 0 ∧ (j < 4 ∨ (5 ≤ j ∧ j ≤ 7) ∨ (9 ≤ j ∧ j ≤ 11) ∨ j = 13)) ∨ (n = 0 ∧ k = 0 ∧ (j = 4 ∨ j = 12 ∨ j = 14 ∨ j = 16)) ∨ (n = 0 ∧ k = 2 ∧ j = 8) ∨ (n = 0 ∧ k = 1 ∧ j = 15) := by
  intro j n k hj
  match j, hj with
  | 0, _ | 1, _ | 2, _ | 3, _ | 4, _ | 5, _ | 6, _ | 7, _ | 8, _ | 9, _ | 10, _ | 11, _ | 12, _ | 13, _ | 14, _ | 15, _ | 16, _ =>
    intro h
    have h1 := Option.some.inj h
    injection h1 with h2 h3
    injection h3 with h4 h5
    omega
  | j + 17, h => omega
theorem shape_small {p : Int} {n k : Nat} (h : PySr112.shape p = some (n, k)) : n ≤ 1 ∧ k ≤ 2 := by
  obtain ⟨j, _, hj⟩ := shape_tab h
  have := tab_kinds j n k (lt_of_get hj) hj
  omega
/-- which call it is -/
theorem parse_some {p : Int} {n k : Nat} (h : PySr112.shape p = some (n, k)) {xs : List Int} {ls : List (List Int)} (hx : xs.length = n) (hl : ls.length = k) : ∃ c, Sr112Neutral.parseCall ((p :: xs) :: ls) = some c := by
  obtain ⟨j, hp, hj⟩ := shape_tab h
  have hlt : j < 17 := lt_of_get hj
  have hk := tab_kinds j n k hlt hj
  clear h hj
  subst hp
  rcases hk with ⟨h1, h2, h⟩ | ⟨h1, h2, h⟩ | ⟨h1, h2, h⟩ | ⟨h1, h2, h⟩
  · rw [h1] at hx
    rw [h2] at hl
    obtain ⟨x, rfl⟩ := List.length_eq_one_iff.mp hx
    obtain rfl := List.length_eq_zero_iff.mp hl
    match j, hlt with
    | 0, _ | 1, _ | 2, _ | 3, _ | 5, _ | 6, _ | 7, _ | 9, _ | 10, _ | 11, _ | 13, _ => exact ⟨_, rfl⟩
    | 4, _ | 8, _ | 12, _ | 14, _ | 15, _ | 16, _ => omega
    | j + 17, h => omega
  · rw [h1] at hx
    rw [h2] at hl
    obtain rfl := List.length_eq_zero_iff.mp hx
    obtain rfl := List.length_eq_zero_iff.mp hl
    rcases h with rfl | rfl | rfl | rfl <;> exact ⟨_, rfl⟩
  · rw [h1] at hx
    rw [h2] at hl
    obtain rfl := List.length_eq_zero_iff.mp hx
    subst h
    match ls, hl with
    | [a, b], _ => exact ⟨_, rfl⟩
  · rw [h1] at hx
    rw [h2] at hl
    obtain rfl := List.length_eq_zero_iff.mp hx
    subst h
    match ls, hl with
    | [a], _ => exact ⟨_, rfl⟩
/-- a step of the specification, by kinds -/
theorem step_of {S : Sr112.State} {raw : List (List Int)} {c : Sr112.Call} (h : Sr112Neutral.parseCall raw = some c) : Sr112Neutral.step S raw = ((Sr112.step S c).1, (Sr112.step S c).2.code :: (Sr112.step S c).2.values) := by
  unfold Sr112Neutral.step
  rw [h]
theorem step_some {w : Sr112.Wall} {c : Sr112.Call} (h : ∀ z, c ≠ .create z) : ((Sr112.step (some w) c).1, (Sr112.step (some w) c).2.code :: (Sr112.step (some w) c).2.values) = (some (nextW w c), resOf w c) := by
  have e : Sr112.step (some w) c = (match Sr112.perform w c with
      | (some changed, result) => (some changed, result)
      | (none, result) => (some w, result)) := by
    cases c with
    | create z => exact absurd rfl (h z)
    | _ => rfl
  rw [e]
  unfold nextW resOf
  obtain ⟨x, y⟩ := Sr112.perform w c
  cases x <;> rfl
theorem step_none {c : Sr112.Call} (h : ∀ z, c ≠ .create z) : ((Sr112.step none c).1, (Sr112.step none c).2.code :: (Sr112.step none c).2.values) = (none, [-11]) := by
  cases c with
  | create z => exact absurd rfl (h z)
  | _ => rfl
theorem good_next {w : Sr112.Wall} (g : Good w) (c : Sr112.Call) : Good (nextW w c) := by
  cases c with
  | addStoneLength k =>
    unfold nextW Sr112.perform
    by_cases h1 : SrCommon.inRange k 1 9 = false
    · simp only [if_pos h1]
      exact g
    · simp only [if_neg h1]
      have hz := range_nat (by simpa using h1 : SrCommon.inRange k 1 9 = true)
      by_cases h2 : w.stoneLengths.contains k.toNat = true
      · simp only [if_pos h2]
        exact g
      · simp only [if_neg h2]
        by_cases h3 : Sr112.maxStoneLengths ≤ w.stoneLengths.length
        · simp only [if_pos h3]
          exact g
        · simp only [if_neg h3]
          exact g.add (k := k.toNat) (by omega) (fun h => h2 (List.contains_iff_mem.mpr h)) (Nat.lt_of_not_le h3)
  | removeStoneLength k =>
    unfold nextW Sr112.perform
    by_cases h1 : k < 1 ∨ w.stoneLengths.contains k.toNat = false
    · simp only [if_pos h1]
      exact g
    · simp only [if_neg h1]
      exact g.erase k.toNat
  | setLength k =>
    unfold nextW Sr112.perform
    by_cases h1 : Sr112.isLength k = false
    · simp only [if_pos h1]
      exact g
    · simp only [if_neg h1]
      have hz := range_nat (by simpa [Sr112.isLength, Sr112.maxLength] using h1 : SrCommon.inRange k 1 9 = true)
      exact g.setL (by omega) (by omega)
  | _ => exact g
end Jw
namespace Jw
open PySem PySem.Spec PyProof.Rows L2
theorem rF_ne_mF {C C' dx dx' c s : Addr} {i z : Nat} : HO.ins C dx (rF c i) ≠ HO.ins C' dx' (mF z s) := fun e => by
  injection e with e1 e2 e3
  unfold rF mF at e3
  injection e3 with e4 e5
  injection e4 with e6 e7
  exact absurd e6 (by decide +kernel)
theorem step_create (S : Sr112.State) (z : Int) : Sr112Neutral.step S [[0, z]] = if Sr112.isLength z = false then (S, [-22]) else (some ⟨z.toNat, []⟩, [0]) := by
  rw [step_of (c := .create z) rfl]
  unfold Sr112.step
  by_cases h : Sr112.isLength z = false
  · simp only [if_pos h]
    rfl
  · simp only [if_neg h]
    rfl
/-- the instance, or none -/
def Inst (H : Hp) (C c g : Addr) (mv : V) : Sr112.State → Prop
  | none => mv = .non
  | some w => ∃ m dx s, mv = .ref m ∧ MsAt H C m dx s w ∧ Good w ∧ s ≠ c ∧ s ≠ g
/-- the reader changes: the instance stays -/
theorem Inst.but {H H' : Hp} {C C' r dr c c' g : Addr} {j : Nat} {mv : V} {S : Sr112.State} (h : Inst H C c g mv S) (hr : H r = some (.ins C' dr (rF c' j))) (b : But r H H') : Inst H' C c g mv S := by
  cases S with
  | none => exact h
  | some w =>
    obtain ⟨m, dx, s, e, hm, gd, n1, n2⟩ := h
    exact ⟨m, dx, s, e, ⟨b _ _ hm.1 (ne_of hr hm.1 rF_ne_mF).symm, b _ _ hm.2 (ne_of hm.2 hr (by intro z; cases z))⟩, gd, n1, n2⟩
/-- the answers grow: the instance stays -/
theorem Inst.given {H : Hp} {C c g : Addr} {xs ys : List V} {mv : V} {S : Sr112.State} (h : Inst H C c g mv S) (hg : H g = some (.lst xs)) : Inst (upd H g (.lst ys)) C c g mv S := by
  cases S with
  | none => exact h
  | some w =>
    obtain ⟨m, dx, s, e, hm, gd, n1, n2⟩ := h
    refine ⟨m, dx, s, e, ⟨?_, ?_⟩, gd, n1, n2⟩
    · rw [upd_ne (ne_of hm.1 hg (by intro z; cases z))]
      exact hm.1
    · rw [upd_ne n2]
      exact hm.2
theorem Inst.same {H H' : Hp} {C c g : Addr} {mv : V} {S : Sr112.State} (h : Inst H C c g mv S) (b : Same H H') : Inst H' C c g mv S := by
  cases S with
  | none => exact h
  | some w =>
    obtain ⟨m, dx, s, e, hm, gd, n1, n2⟩ := h
    exact ⟨m, dx, s, e, hm.mono b, gd, n1, n2⟩
theorem not_create {op : Int} {xs : List Int} {ls : List (List Int)} {c : Sr112.Call} (h0 : op ≠ 0) (h : Sr112Neutral.parseCall ((op :: xs) :: ls) = some c) : ∀ z, c ≠ .create z := by
  intro z e
  subst e
  unfold Sr112Neutral.parseCall at h
  split at h <;> first | (cases h; done) | skip
  all_goals first | (exact absurd (List.cons.inj (List.cons.inj (by assumption)).1).1 h0) | skip
theorem row_short {r x s : List Int} (h : PyFlat.row r = some (x, s)) : x.length ≤ r.length ∧ s.length ≤ r.length := by
  cases r with
  | nil => cases h
  | cons z r =>
    have h' : (if 0 ≤ z ∧ z.toNat ≤ r.length then some (r.take z.toNat, r.drop z.toNat) else none) = some (x, s) := h
    by_cases hc : 0 ≤ z ∧ z.toNat ≤ r.length
    · rw [if_pos hc] at h'
      cases h'
      rw [List.length_take, List.length_drop, List.length_cons]
      omega
    · rw [if_neg hc] at h'
      cases h'
theorem rows_short : ∀ {k : Nat} {r : List Int} {xs : List (List Int)} {t : List Int}, PyFlat.rows k r = some (xs, t) → ∀ x ∈ xs, x.length ≤ r.length
  | 0, r, xs, t, h, x, hx => by
    cases h
    cases hx
  | k + 1, r, xs, t, h, x, hx => by
    unfold PyFlat.rows at h
    cases e : PyFlat.row r with
    | none =>
      rw [e] at h
      cases h
    | some w =>
      rw [e] at h
      obtain ⟨y, s⟩ := w
      simp only at h
      cases e' : PyFlat.rows k s with
      | none =>
        rw [e'] at h
        cases h
      | some w' =>
        rw [e'] at h
        obtain ⟨ys, t'⟩ := w'
        cases h
        have h1 := row_short e
        rcases List.mem_cons.mp hx with rfl | hx
        · exact h1.1
        · exact Nat.le_trans (rows_short e' x hx) h1.2
section
variable {P : Program} {w : World} {K : PySem.W.Frag} {mg : Str → Option Value} {base : Heap} {A : Adr}
/-- one call other than create, by its parts -/
def sp_answer_of (C : Addr) : Sp := fun vs H Q _ => ∃ (m pt dx s : Addr) (op : Int) (xs : List Int) (ls : List (List Int)) (as : List Addr) (c : Sr112.Call) (w : Sr112.Wall), vs = [.ref m, .int op, .ref pt] ∧ H pt = some (.lst (xs.map V.int ++ as.map V.ref)) ∧
  ListsA H [] as ls ∧ Sr112Neutral.parseCall ((op :: xs) :: ls) = some c ∧ (∀ z, c ≠ .create z) ∧ (∀ x ∈ ls, x.length ≤ 262144) ∧ SA C w c m dx s H Q
/-! ### answers -/
structure Loop (H : Hp) (A : Adr) (r dr c g : Addr) (l gs : List Int) (j : Nat) (mv : V) (S : Sr112.State) : Prop where
  hR : H r = some (.ins A.c_Reader dr (rF c j))
  hC : H c = some (.lst (l.map V.int))
  hG : H g = some (.lst (gs.map V.int))
  cg : c ≠ g
  inst : Inst H A.c_Masonry c g mv S
def Left (l gs : List Int) (j : Nat) (S : Sr112.State) : Prop := ∃ f cs, PyFlat.calls PySr112.shape f (l.drop j) = some cs ∧ PySr112.answers l = gs ++ PyFlat.told (PyFlat.played Sr112Neutral.step S cs)
def LW (A : Adr) (l : List Int) (b r dr c g : Addr) (m : Nat) (σ : L2.St) (H : Hp) : Prop := ∃ (mv : V) (gs : List Int) (j : Nat) (v4 v5 v6 : Option V) (S : Sr112.State), σ = [some (.ref b), some (.ref r), some mv, some (.ref g), v4, v5, v6] ∧ m = l.length - j ∧ j ≤ l.length ∧
  Loop H A r dr c g l gs j mv S ∧ Left l gs j S
def sp_answers (K : PySem.W.Frag) : Sp := fun vs H Q _ => ∃ (b : Addr) (l : List Int), vs = [.ref b] ∧ SqL K H b (l.map V.int) ∧ (∃ f cs, PyFlat.calls PySr112.shape f l = some cs ∧ PySr112.answers l = PyFlat.told (PyFlat.played Sr112Neutral.step Sr112Neutral.start cs)) ∧ (PySr112.answers l).length ≤ 10000000 ∧ l.length ≤ 262144 ∧
  ∀ (H' : Hp) p, H' p = some (.lst ((PySr112.answers l).map V.int)) → Q (.ref p) H'
theorem fn_answers {fd : FuncData} (F : Fun K "answers" "answers" s_answers A.f_answers fd) (T : Txt K mg A) (D_Reader_init : Df P w K mg base 1 A.f_Reader_init ["self", "calls"] (sp_Reader_init K A.c_Reader)) (D_Reader_has_more : Df P w K mg base 1 A.f_Reader_has_more ["self"] (sp_Reader_has_more A.c_Reader))
    (D_Reader_number : Df P w K mg base 1 A.f_Reader_number ["self"] (sp_Reader_number A.c_Reader)) (D_Reader_parts : Df P w K mg base 3 A.f_Reader_parts ["self", "operation"] (sp_Reader_parts A.c_Reader))
    (D_is_length : Df P w K mg base 1 A.f_is_length ["number"] sp_is_length) (D_Masonry_init : Df P w K mg base 1 A.f_Masonry_init ["self", "length"] (sp_Masonry_init A.c_Masonry))
    (D_answer_of : Df P w K mg base 5 A.f_answer_of ["masonry", "operation", "parts"] (sp_answer_of A.c_Masonry)) : FnOk P w K mg base CX0 6 A.f_answers fd ["calls"] (sp_answers K) := by
  refine F.ok sc_answers (fun vs H Q E h => ?_) (fun cdv Ar outer s H vs Q E hr h => ?_)
  · obtain ⟨b, l, rfl, _⟩ := h
    rfl
  · obtain ⟨b, l, rfl, hB, hcalls, hsize, hl8, q⟩ := h
    refine ⟨_, (pss_cons (ps_set (i := 1) sc_answers.nd rfl (Or.inl rfl) (pe_mak T.mk_Reader D_Reader_init (hr.mono (by decide)) (by rfl) T.g_Reader (pa_cons (pv 0) pa_nil)))
      (pss_cons (ps_set (i := 2) sc_answers.nd rfl (Or.inl rfl) pe_non)
      (pss_cons (ps_set (i := 3) sc_answers.nd rfl (Or.inl rfl) (pe_lst pa_nil))
      (pss_cons (ps_while PassesOwn.never (pt_val (pe_mth0 (pv 1) T.cl_Reader T.m_Reader_has_more D_Reader_has_more (hr.mono (by decide))))
      (pss_cons (ps_set (i := 4) sc_answers.nd rfl (Or.inl rfl) (pe_mth0 (pv 1) T.cl_Reader T.m_Reader_number D_Reader_number (hr.mono (by decide))))
        (pss_cons (ps_set (i := 5) sc_answers.nd rfl (Or.inl rfl) (pe_mth (pv 1) T.cl_Reader T.m_Reader_parts D_Reader_parts (hr.mono (by decide)) (pa_cons (pv 4) pa_nil)))
        (pss_cons (ps_if (pt_cmpR op_eq (pv 4) (pe_cst (by rfl) T.c_CREATE) (nomark _))
        (pss_one (ps_if (pt_val (pe_cal D_is_length (hr.mono (by decide)) (by rfl) T.g_is_length (pa_cons (pe_ix (r := rIxL K) ix_list (pv 5) pe_int (fun _ _ => rfl)) pa_nil)))
          (pss_cons (ps_set (i := 2) sc_answers.nd rfl (Or.inl rfl) (pe_mak T.mk_Masonry D_Masonry_init (hr.mono (by decide)) (by rfl) T.g_Masonry (pa_cons (pe_ix (r := rIxL K) ix_list (pv 5) pe_int (fun _ _ => rfl)) pa_nil)))
            (pss_one (ps_set (i := 6) sc_answers.nd rfl (Or.inl rfl) (pe_lst (pa_cons pe_int pa_nil)))))
          (pss_one (ps_set (i := 6) sc_answers.nd rfl (Or.inl rfl) (pe_lst (pa_cons (pe_cst (by rfl) T.c_OUT_OF_RANGE) pa_nil))))))
        (pss_one (ps_if (pt_cmpR op_isN (pv 2) pe_non (nomark _))
          (pss_one (ps_set (i := 6) sc_answers.nd rfl (Or.inl rfl) (pe_lst (pa_cons (pe_cst (by rfl) T.c_NO_INSTANCE) pa_nil))))
          (pss_one (ps_set (i := 6) sc_answers.nd rfl (Or.inl rfl) (pe_cal D_answer_of (hr.mono (by decide)) (by rfl) T.g_answer_of (pa_cons (pv 2) (pa_cons (pv 4) (pa_cons (pv 5) pa_nil)))))))))
        (pss_cons (ps_expr (pe_bm PySem.F.plainAttrs_list PySem.F.slot_list_append PySem.F.type_list_append mt_append (pv 3) (pa_cons (pe_callB call_len_seq (by rfl) T.b_len (by decide +kernel) (pa_cons (pv 6) pa_nil)) pa_nil)))
        (pss_one (ps_expr (pe_bm PySem.F.plainAttrs_list PySem.F.slot_list_extend PySem.F.type_list_extend mt_extend (pv 3) (pa_cons (pv 6) pa_nil)))))))))
      (pss_one (ps_ret (pv 3))))))), ?_⟩
    -- reader = Reader(calls)
    refine ⟨_, rfl, fun r dr nr nd nrd => ?_⟩
    have s0 : Same H (upd (upd H dr (.own r)) r (.ins A.c_Reader dr [])) := (same_new nd).trans (same_new (by rw [upd_ne nrd.symm]; exact nr))
    refine ⟨r, dr, b, l.map V.int, rfl, upd_same, s0.seq hB, fun H1 c hR hC nc _ => ⟨rfl, ?_⟩⟩
    -- masonry = None; given = []
    refine ⟨Nat.zero_le _, fun g ng => ?_⟩
    have hcg : c ≠ g := ne_of_none hC ng
    have hrg : r ≠ g := ne_of_none hR ng
    -- while reader.has_more()
    refine ⟨LW A l b r dr c g, ⟨l.length, .non, [], 0, none, none, none, none, rfl, by omega, Nat.zero_le _, ⟨same_new ng _ _ hR, same_new ng _ _ hC, upd_same, hcg, rfl⟩, ?_⟩, ?_⟩
    · obtain ⟨f, cs, e1, e2⟩ := hcalls
      exact ⟨f, cs, e1, e2⟩
    rintro m σ H2 ⟨mv, gs, j, v4, v5, v6, S, rfl, rfl, hj, I, f, cs, hcs, hans⟩
    refine ⟨_, rfl, r, dr, _, rfl, I.hR, rF_none _ _ _ (by decide +kernel) (by decide +kernel), r, dr, c, j, l, rfl, I.hR, I.hC, _, rfl, ite2 (fun e => ?_) (fun e => ?_)⟩
    · -- a turn
      have hlt : j < l.length := of_decide_eq_true e
      obtain ⟨op, rest, hd⟩ : ∃ op rest, l.drop j = op :: rest := by
        cases e : l.drop j with
        | nil =>
          have := congrArg List.length e
          rw [List.length_drop] at this
          simp at this
          omega
        | cons op rest => exact ⟨op, rest, rfl⟩
      obtain ⟨g1, g2, g3⟩ := drop_get hd
      rw [hd] at hcs
      obtain ⟨f', n, k, xs, t, ds, hshape, hn, hrows, hds, rfl⟩ := calls_cons hcs
      have hsm := shape_small hshape
      refine ⟨fun σ' H' => ∃ m', m' < l.length - j ∧ LW A l b r dr c g m' σ' H', fun _ _ h => h, ?_⟩
      -- operation = reader.number()
      refine ⟨_, rfl, r, dr, _, rfl, I.hR, rF_none _ _ _ (by decide +kernel) (by decide +kernel), r, dr, c, j, l, op, rfl, I.hR, I.hC, g1, ?_⟩
      have I1 : Inst (upd H2 r (.ins A.c_Reader dr (rF c (j + 1)))) A.c_Masonry c g mv S := I.inst.but I.hR but_upd
      have hcr : c ≠ r := ne_of I.hC I.hR (by intro z; cases z)
      have hgr : g ≠ r := ne_of I.hG I.hR (by intro z; cases z)
      have hC1 : (upd H2 r (.ins A.c_Reader dr (rF c (j + 1)))) c = some (.lst (l.map V.int)) := by
        rw [upd_ne hcr]
        exact I.hC
      have hG1 : (upd H2 r (.ins A.c_Reader dr (rF c (j + 1)))) g = some (.lst (gs.map V.int)) := by
        rw [upd_ne hgr]
        exact I.hG
      -- parts = reader.parts(operation)
      refine ⟨_, rfl, r, dr, _, rfl, upd_same, rF_none _ _ _ (by decide +kernel) (by decide +kernel), _, rfl, r, dr, c, j + 1, n, k, l, op, xs, t, rfl, upd_same, hC1, hshape, by omega, by rw [g2]; exact hrows, by omega, by omega,
        fun H3 pt as j3 npt hpt hL3 hR3 ht3 hj31 hj32 b3 => ?_⟩
      rw [g2] at hpt
      have I3 : Inst H3 A.c_Masonry c g mv S := I1.but upd_same b3
      have hC3 := b3 _ _ hC1 hcr
      have hG3 := b3 _ _ hG1 hgr
      have hxl : (rest.take n).length = n := by
        rw [List.length_take]
        omega
      obtain ⟨call, hparse⟩ := parse_some hshape hxl (rows_len hrows)
      have hstep := step_of (S := S) hparse
      -- the end of a turn
      have tail : ∀ (mv' v4 v5 : Option V) (u : Addr) (H' : Hp) (S' : Sr112.State) (ans : List Int) (mw : V), mv' = some mw → Sr112Neutral.step S ((op :: rest.take n) :: xs) = (S', ans) → H' u = some (.lst (ans.map V.int)) → u ≠ g →
          H' r = some (.ins A.c_Reader dr (rF c j3)) → H' c = some (.lst (l.map V.int)) → H' g = some (.lst (gs.map V.int)) → Inst H' A.c_Masonry c g mw S' →
          tSeq (tDrop (tBM K "list" rAppend (tVar 3) (tCons (tCB (fun xs H Q => ∃ p ys, xs = [.ref p] ∧ (SqL K H p ys ∨ SqT K H p ys) ∧ Q (.int ys.length) H) (tCons (tVar 6) tNil)) tNil))) (tDrop (tBM K "list" rExtend (tVar 3) (tCons (tVar 6) tNil)))
            { nx := fun σ' H' => ∃ m', m' < l.length - j ∧ LW A l b r dr c g m' σ' H', rt := Q, bk := fun _ _ => False, ct := fun _ _ => False } [some (.ref b), some (.ref r), mv', some (.ref g), v4, v5, some (.ref u)] H' := by
        intro mv' v4 v5 u H' S' ans mw emv hst hu hug hR' hC' hG' hI'
        subst emv
        have htold : PySr112.answers l = (gs ++ ((ans.length : Int) :: ans)) ++ PyFlat.told (PyFlat.played Sr112Neutral.step S' ds) := by
          rw [hans]
          show gs ++ PyFlat.told ((Sr112Neutral.step S _).2 :: PyFlat.played Sr112Neutral.step (Sr112Neutral.step S _).1 ds) = _
          rw [hst, told_cons, List.append_assoc]
        have hlen : gs.length + (1 + ans.length) ≤ 10000000 := by
          have := congrArg List.length htold
          rw [List.length_append, List.length_append, List.length_cons] at this
          omega
        have big : (10000000 : Nat) < sizeLine := by decide
        refine ⟨_, rfl, .inl ⟨rfl, _, sq_of hG'⟩, _, rfl, u, _, rfl, .inl (sq_of hu), g, _, _, rfl, rfl, hG', ?_, ?_⟩
        · rw [List.length_map]
          omega
        · refine ⟨_, rfl, .inl ⟨rfl, _, sq_of upd_same⟩, _, rfl, g, u, _, ans.map V.int, rfl, rfl, upd_same, by rw [upd_ne hug]; exact hu, ?_, ?_⟩
          · rw [List.length_append, List.length_map, List.length_map, List.length_singleton]
            omega
          · rw [upd_upd]
            refine ⟨l.length - j3, by omega, mw, gs ++ ((ans.length : Int) :: ans), j3, _, _, _, S', rfl, rfl, hj32, ⟨?_, ?_, ?_, I.cg, hI'.given hG'⟩, f', ds, by rw [ht3]; exact hds, htold⟩
            · rw [upd_ne hrg]
              exact hR'
            · rw [upd_ne I.cg]
              exact hC'
            · rw [upd_same, List.length_map, List.map_append, List.append_assoc]
              rfl
      have num : ∀ (z : Int) (H' : Hp) (S' : Sr112.State) (mw : V) (v4 v5 : Option V), Sr112Neutral.step S ((op :: rest.take n) :: xs) = (S', [z]) → H' r = some (.ins A.c_Reader dr (rF c j3)) → H' c = some (.lst (l.map V.int)) → H' g = some (.lst (gs.map V.int)) → Inst H' A.c_Masonry c g mw S' →
          ∀ u, H' u = none → tSeq (tDrop (tBM K "list" rAppend (tVar 3) (tCons (tCB (fun xs H Q => ∃ p ys, xs = [.ref p] ∧ (SqL K H p ys ∨ SqT K H p ys) ∧ Q (.int ys.length) H) (tCons (tVar 6) tNil)) tNil))) (tDrop (tBM K "list" rExtend (tVar 3) (tCons (tVar 6) tNil)))
            { nx := fun σ' H' => ∃ m', m' < l.length - j ∧ LW A l b r dr c g m' σ' H', rt := Q, bk := fun _ _ => False, ct := fun _ _ => False } [some (.ref b), some (.ref r), some mw, some (.ref g), v4, v5, some (.ref u)] (upd H' u (.lst [.int z])) := by
        intro z H' S' mw v4 v5 hst hR' hC' hG' hI' u nu
        have sm := same_new (o := .lst [.int z]) nu
        exact tail _ v4 v5 u _ S' [z] mw rfl hst upd_same (ne_of_none hG' nu).symm (sm _ _ hR') (sm _ _ hC') (sm _ _ hG') (hI'.same sm)
      by_cases h0 : op = 0
      · subst h0
        have hs0 : PySr112.shape 0 = some (1, 0) := rfl
        rw [hs0] at hshape
        obtain ⟨rfl, rfl⟩ : 1 = n ∧ 0 = k := by
          cases hshape
          exact ⟨rfl, rfl⟩
        obtain ⟨rfl, _⟩ : xs = [] ∧ rest.drop 1 = t := by
          cases hrows
          exact ⟨rfl, rfl⟩
        obtain rfl : as = [] := by
          cases hL3
          rfl
        obtain ⟨z, hz⟩ := List.length_eq_one_iff.mp hxl
        rw [hz] at hpt num
        have st0 := step_create S z
        refine ⟨_, rfl, rfl, _, rfl, ite2 (fun _ => ?_) (fun e1 => absurd (decide_eq_true rfl) e1)⟩
        refine ⟨_, rfl, pt, _, 0, .int z, rfl, rfl, sq_of hpt, atI_nat (j := 0) rfl, z, rfl, _, rfl, ite2 (fun e1 => ?_) (fun e1 => ?_)⟩
        · have e2 : SrCommon.inRange z 1 9 = true := e1
          have hz9 := range_nat e2
          refine ⟨_, rfl, pt, _, 0, .int z, rfl, rfl, sq_of hpt, atI_nat (j := 0) rfl, fun x dx nx nd nxd => ?_⟩
          have s1 : Same H3 (upd (upd H3 dx (.own x)) x (.ins A.c_Masonry dx [])) := (same_new nd).trans (same_new (by rw [upd_ne nxd.symm]; exact nx))
          refine ⟨x, dx, z.toNat, by rw [show ((z.toNat : Nat) : Int) = z by omega], upd_same, fun H4 s hx hs ns b4 => ⟨rfl, ?_⟩⟩
          have kp : ∀ b o, H3 b = some o → H4 b = some o := fun b o e => b4 b o (s1 _ _ e) (ne_of_none e nx)
          refine ⟨(by show 1 ≤ sizeLine; decide), fun u nu => ?_⟩
          refine num 0 H4 (some ⟨z.toNat, []⟩) (.ref x) _ _ ?_ (kp _ _ hR3) (kp _ _ hC3) (kp _ _ hG3) ⟨x, dx, s, rfl, ⟨hx, hs⟩, Good.new (by omega) (by omega), ?_, ?_⟩ u nu
          · rw [st0, if_neg (by rw [show Sr112.isLength z = true from e2]; simp)]
          · exact (ne_of_none (s1 _ _ hC3) ns).symm
          · exact (ne_of_none (s1 _ _ hG3) ns).symm
        · have e2 : SrCommon.inRange z 1 9 = false := by simpa using e1
          refine ⟨(by show 1 ≤ sizeLine; decide), fun u nu => ?_⟩
          refine num (-22) H3 S mv _ _ ?_ hR3 hC3 hG3 I3 u nu
          rw [st0, if_pos (show Sr112.isLength z = false from e2)]
      · have hnc := not_create h0 hparse
        refine ⟨_, rfl, rfl, _, rfl, ite2 (fun e1 => absurd (V.int.inj (of_decide_eq_true e1)) h0) (fun _ => ?_)⟩
        cases S with
        | none =>
          obtain rfl : mv = .non := I3
          refine ⟨_, rfl, rfl, _, rfl, ite2 (fun _ => ?_) (fun e1 => absurd (decide_eq_true rfl) e1)⟩
          refine ⟨(by show 1 ≤ sizeLine; decide), fun u nu => ?_⟩
          refine num (-11) H3 none .non _ _ ?_ hR3 hC3 hG3 rfl u nu
          rw [hstep, step_none hnc]
        | some w =>
          obtain ⟨mm, mdx, ms, rfl, hm, gd, n1, n2⟩ := I3
          refine ⟨_, rfl, rfl, _, rfl, ite2 (fun e1 => by simp at e1) (fun _ => ?_)⟩
          refine ⟨_, rfl, _, rfl, _, rfl, mm, pt, mdx, ms, op, rest.take n, xs, as, call, w, rfl, hpt, Paired.mapP hL3 fun _ _ q => ⟨q.1, by simp⟩, hparse, hnc, fun x hx => by have := rows_short hrows x hx; rw [List.length_drop] at this; omega, hm, gd, fun H4 u s' hm4 hs4 kp4 nu hu => ?_⟩
          have hst : Sr112Neutral.step (some w) ((op :: rest.take n) :: xs) = (some (nextW w call), resOf w call) := by
            rw [hstep, step_some hnc]
          have hRm : r ≠ mm := ne_of hR3 hm.1 rF_ne_mF
          have hRs : r ≠ ms := ne_of hR3 hm.2 (by intro z; cases z)
          have hCm : c ≠ mm := ne_of hC3 hm.1 (by intro z; cases z)
          have hGm : g ≠ mm := ne_of hG3 hm.1 (by intro z; cases z)
          have ec : s' ≠ c := by
            rcases hs4 with e | e
            · rw [e]
              exact n1
            · exact (ne_of_none hC3 e).symm
          have eg : s' ≠ g := by
            rcases hs4 with e | e
            · rw [e]
              exact n2
            · exact (ne_of_none hG3 e).symm
          exact tail _ _ _ u H4 _ _ (.ref mm) rfl hst hu (ne_of_none hG3 nu).symm (kp4 _ _ hR3 hRm hRs) (kp4 _ _ hC3 hCm n1.symm) (kp4 _ _ hG3 hGm n2.symm) ⟨mm, mdx, s', rfl, hm4, good_next gd call, ec, eg⟩
    · -- the end
      have hge : ¬ j < l.length := fun h => e (decide_eq_true h)
      have hd : l.drop j = [] := List.drop_eq_nil_of_le (by omega)
      rw [hd] at hcs
      obtain rfl := calls_nil hcs
      have : PySr112.answers l = gs := by
        rw [hans]
        exact List.append_nil _
      exact ⟨_, rfl, q _ g (by rw [this]; exact I.hG)⟩
end
end Jw
namespace Jw
open PySem PySem.Spec PyProof.Rows L2
/-- which call a list of parts is -/
inductive Parsed : Int → List Int → List (List Int) → Sr112.Call → Prop
  | c0 (z) : Parsed 0 [z] [] (.create z)
  | c1 (z) : Parsed 1 [z] [] (.addStoneLength z)
  | c2 (z) : Parsed 2 [z] [] (.removeStoneLength z)
  | c3 (z) : Parsed 3 [z] [] (.setLength z)
  | c4 : Parsed 4 [] [] .rowCount
  | c5 (z) : Parsed 5 [z] [] (.row z)
  | c6 (z) : Parsed 6 [z] [] (.joints z)
  | c7 (z) : Parsed 7 [z] [] (.compatibleCount z)
  | c8 (r s) : Parsed 8 [] [r, s] (.areCompatible r s)
  | c9 (z) : Parsed 9 [z] [] (.wallCount z)
  | c10 (z) : Parsed 10 [z] [] (.firstWall z)
  | c11 (z) : Parsed 11 [z] [] (.isPossibleLength z)
  | c12 : Parsed 12 [] [] .impossibleLengths
  | c13 (z) : Parsed 13 [z] [] (.minStones z)
  | c14 : Parsed 14 [] [] .loneliestRow
  | c15 (r) : Parsed 15 [] [r] (.checkWall r)
  | c16 : Parsed 16 [] [] .describe
theorem parsed {op : Int} {xs : List Int} {ls : List (List Int)} {c : Sr112.Call} (h : Sr112Neutral.parseCall ((op :: xs) :: ls) = some c) : Parsed op xs ls c := by
  unfold Sr112Neutral.parseCall at h
  split at h <;> (first | (rename_i e; injection e with e1 e2; injection e1 with e3 e4; subst e3 e4 e2; injection h with h; subst h; constructor) | (rename_i a e; injection e with e1 e2; injection e1 with e3 e4; subst e3 e4 e2; injection h with h; subst h; constructor) | (rename_i a b e; injection e with e1 e2; injection e1 with e3 e4; subst e3 e4 e2; injection h with h; subst h; constructor) | (cases h))
section
variable {P : Program} {w : World} {K : PySem.W.Frag} {mg : Str → Option Value} {base : Heap} {A : Adr}
theorem ok_answer_of (T : Txt K mg A)
    (D_Masonry_add_stone_length : Df P w K mg base 2 A.f_Masonry_add_stone_length ["self", "k"] (sp_Masonry_add_stone_length A.c_Masonry))
    (D_Masonry_remove_stone_length : Df P w K mg base 1 A.f_Masonry_remove_stone_length ["self", "k"] (sp_Masonry_remove_stone_length A.c_Masonry))
    (D_Masonry_set_length : Df P w K mg base 2 A.f_Masonry_set_length ["self", "length"] (sp_Masonry_set_length A.c_Masonry))
    (D_Masonry_row_count : Df P w K mg base 4 A.f_Masonry_row_count ["self"] (sp_Masonry_row_count A.c_Masonry))
    (D_Masonry_row : Df P w K mg base 4 A.f_Masonry_row ["self", "i"] (sp_Masonry_row A.c_Masonry))
    (D_Masonry_joints : Df P w K mg base 4 A.f_Masonry_joints ["self", "i"] (sp_Masonry_joints A.c_Masonry))
    (D_Masonry_compatible_count : Df P w K mg base 4 A.f_Masonry_compatible_count ["self", "i"] (sp_Masonry_compatible_count A.c_Masonry))
    (D_Masonry_are_compatible : Df P w K mg base 4 A.f_Masonry_are_compatible ["self", "first", "second"] (sp_Masonry_are_compatible A.c_Masonry))
    (D_Masonry_wall_count : Df P w K mg base 4 A.f_Masonry_wall_count ["self", "height"] (sp_Masonry_wall_count A.c_Masonry))
    (D_Masonry_first_wall : Df P w K mg base 4 A.f_Masonry_first_wall ["self", "height"] (sp_Masonry_first_wall A.c_Masonry))
    (D_Masonry_is_possible_length : Df P w K mg base 2 A.f_Masonry_is_possible_length ["self", "m"] (sp_Masonry_is_possible_length A.c_Masonry))
    (D_Masonry_impossible_lengths : Df P w K mg base 2 A.f_Masonry_impossible_lengths ["self"] (sp_Masonry_impossible_lengths A.c_Masonry))
    (D_Masonry_min_stones : Df P w K mg base 2 A.f_Masonry_min_stones ["self", "m"] (sp_Masonry_min_stones A.c_Masonry))
    (D_Masonry_loneliest_row : Df P w K mg base 4 A.f_Masonry_loneliest_row ["self"] (sp_Masonry_loneliest_row A.c_Masonry))
    (D_Masonry_check_wall : Df P w K mg base 4 A.f_Masonry_check_wall ["self", "numbers"] (sp_Masonry_check_wall A.c_Masonry))
    (D_Masonry_describe : Df P w K mg base 2 A.f_Masonry_describe ["self"] (sp_Masonry_describe A.c_Masonry)) : Df P w K mg base 5 A.f_answer_of ["masonry", "operation", "parts"] (sp_answer_of A.c_Masonry) := by
  refine Df.of T.F_answer_of sc_answer_of (fun vs H Q E h => ?_) (fun cdv Ar outer s H vs Q E hr h => ?_)
  · obtain ⟨m, pt, dx, s, op, xs, ls, as, c, w, rfl, _⟩ := h
    rfl
  · obtain ⟨m, pt, dx, st, op, xs, ls, as, c, w, rfl, hpt, hL, hp, hnc, hls, S⟩ := h
    have hA := S.1
    refine ⟨_, (pss_cons (ps_if (pt_cmpR op_eq (pv 1) (pe_cst (by rfl) T.c_ADD_STONE_LENGTH) (nomark _))
      (pss_one (ps_ret (pe_mth (pv 0) T.cl_Masonry T.m_Masonry_add_stone_length D_Masonry_add_stone_length (hr.mono (by decide)) (pa_cons (pe_ix (r := rIxL K) ix_list (pv 2) pe_int (fun _ _ => rfl)) pa_nil))))
      pss_nil)
      (pss_cons (ps_if (pt_cmpR op_eq (pv 1) (pe_cst (by rfl) T.c_REMOVE_STONE_LENGTH) (nomark _))
      (pss_one (ps_ret (pe_mth (pv 0) T.cl_Masonry T.m_Masonry_remove_stone_length D_Masonry_remove_stone_length (hr.mono (by decide)) (pa_cons (pe_ix (r := rIxL K) ix_list (pv 2) pe_int (fun _ _ => rfl)) pa_nil))))
      pss_nil)
      (pss_cons (ps_if (pt_cmpR op_eq (pv 1) (pe_cst (by rfl) T.c_SET_LENGTH) (nomark _))
      (pss_one (ps_ret (pe_mth (pv 0) T.cl_Masonry T.m_Masonry_set_length D_Masonry_set_length (hr.mono (by decide)) (pa_cons (pe_ix (r := rIxL K) ix_list (pv 2) pe_int (fun _ _ => rfl)) pa_nil))))
      pss_nil)
      (pss_cons (ps_if (pt_cmpR op_eq (pv 1) (pe_cst (by rfl) T.c_ROW_COUNT) (nomark _))
      (pss_one (ps_ret (pe_mth0 (pv 0) T.cl_Masonry T.m_Masonry_row_count D_Masonry_row_count (hr.mono (by decide)))))
      pss_nil)
      (pss_cons (ps_if (pt_cmpR op_eq (pv 1) (pe_cst (by rfl) T.c_ROW) (nomark _))
      (pss_one (ps_ret (pe_mth (pv 0) T.cl_Masonry T.m_Masonry_row D_Masonry_row (hr.mono (by decide)) (pa_cons (pe_ix (r := rIxL K) ix_list (pv 2) pe_int (fun _ _ => rfl)) pa_nil))))
      pss_nil)
      (pss_cons (ps_if (pt_cmpR op_eq (pv 1) (pe_cst (by rfl) T.c_JOINTS) (nomark _))
      (pss_one (ps_ret (pe_mth (pv 0) T.cl_Masonry T.m_Masonry_joints D_Masonry_joints (hr.mono (by decide)) (pa_cons (pe_ix (r := rIxL K) ix_list (pv 2) pe_int (fun _ _ => rfl)) pa_nil))))
      pss_nil)
      (pss_cons (ps_if (pt_cmpR op_eq (pv 1) (pe_cst (by rfl) T.c_COMPATIBLE_COUNT) (nomark _))
      (pss_one (ps_ret (pe_mth (pv 0) T.cl_Masonry T.m_Masonry_compatible_count D_Masonry_compatible_count (hr.mono (by decide)) (pa_cons (pe_ix (r := rIxL K) ix_list (pv 2) pe_int (fun _ _ => rfl)) pa_nil))))
      pss_nil)
      (pss_cons (ps_if (pt_cmpR op_eq (pv 1) (pe_cst (by rfl) T.c_ARE_COMPATIBLE) (nomark _))
      (pss_one (ps_ret (pe_mth (pv 0) T.cl_Masonry T.m_Masonry_are_compatible D_Masonry_are_compatible (hr.mono (by decide)) (pa_cons (pe_ix (r := rIxL K) ix_list (pv 2) pe_int (fun _ _ => rfl)) (pa_cons (pe_ix (r := rIxL K) ix_list (pv 2) pe_int (fun _ _ => rfl)) pa_nil)))))
      pss_nil)
      (pss_cons (ps_if (pt_cmpR op_eq (pv 1) (pe_cst (by rfl) T.c_WALL_COUNT) (nomark _))
      (pss_one (ps_ret (pe_mth (pv 0) T.cl_Masonry T.m_Masonry_wall_count D_Masonry_wall_count (hr.mono (by decide)) (pa_cons (pe_ix (r := rIxL K) ix_list (pv 2) pe_int (fun _ _ => rfl)) pa_nil))))
      pss_nil)
      (pss_cons (ps_if (pt_cmpR op_eq (pv 1) (pe_cst (by rfl) T.c_FIRST_WALL) (nomark _))
      (pss_one (ps_ret (pe_mth (pv 0) T.cl_Masonry T.m_Masonry_first_wall D_Masonry_first_wall (hr.mono (by decide)) (pa_cons (pe_ix (r := rIxL K) ix_list (pv 2) pe_int (fun _ _ => rfl)) pa_nil))))
      pss_nil)
      (pss_cons (ps_if (pt_cmpR op_eq (pv 1) (pe_cst (by rfl) T.c_IS_POSSIBLE_LENGTH) (nomark _))
      (pss_one (ps_ret (pe_mth (pv 0) T.cl_Masonry T.m_Masonry_is_possible_length D_Masonry_is_possible_length (hr.mono (by decide)) (pa_cons (pe_ix (r := rIxL K) ix_list (pv 2) pe_int (fun _ _ => rfl)) pa_nil))))
      pss_nil)
      (pss_cons (ps_if (pt_cmpR op_eq (pv 1) (pe_cst (by rfl) T.c_IMPOSSIBLE_LENGTHS) (nomark _))
      (pss_one (ps_ret (pe_mth0 (pv 0) T.cl_Masonry T.m_Masonry_impossible_lengths D_Masonry_impossible_lengths (hr.mono (by decide)))))
      pss_nil)
      (pss_cons (ps_if (pt_cmpR op_eq (pv 1) (pe_cst (by rfl) T.c_MIN_STONES) (nomark _))
      (pss_one (ps_ret (pe_mth (pv 0) T.cl_Masonry T.m_Masonry_min_stones D_Masonry_min_stones (hr.mono (by decide)) (pa_cons (pe_ix (r := rIxL K) ix_list (pv 2) pe_int (fun _ _ => rfl)) pa_nil))))
      pss_nil)
      (pss_cons (ps_if (pt_cmpR op_eq (pv 1) (pe_cst (by rfl) T.c_LONELIEST_ROW) (nomark _))
      (pss_one (ps_ret (pe_mth0 (pv 0) T.cl_Masonry T.m_Masonry_loneliest_row D_Masonry_loneliest_row (hr.mono (by decide)))))
      pss_nil)
      (pss_cons (ps_if (pt_cmpR op_eq (pv 1) (pe_cst (by rfl) T.c_CHECK_WALL) (nomark _))
      (pss_one (ps_ret (pe_mth (pv 0) T.cl_Masonry T.m_Masonry_check_wall D_Masonry_check_wall (hr.mono (by decide)) (pa_cons (pe_ix (r := rIxL K) ix_list (pv 2) pe_int (fun _ _ => rfl)) pa_nil))))
      pss_nil)
      (pss_one (ps_ret (pe_mth0 (pv 0) T.cl_Masonry T.m_Masonry_describe D_Masonry_describe (hr.mono (by decide)))))))))))))))))))), ?_⟩
    cases parsed hp with
    | c0 z => exact absurd rfl (hnc z)
    | c1 z =>
      cases hL
      refine ⟨_, rfl, rfl, _, rfl, ite2 (fun _ => ?_) (fun e => absurd (decide_eq_true rfl) e)⟩
      exact ⟨_, rfl, m, dx, _, rfl, hA.1, mF_none _ _ _ (by decide +kernel) (by decide +kernel), _, rfl, pt, _, 0, .int z, rfl, rfl, sq_of hpt, atI_nat (j := 0) rfl, m, dx, st, z, w, rfl, S⟩
    | c2 z =>
      cases hL
      refine ⟨_, rfl, rfl, _, rfl, ite2 (fun e => absurd (V.int.inj (of_decide_eq_true e)) (by decide)) (fun _ => ?_)⟩
      refine ⟨_, rfl, rfl, _, rfl, ite2 (fun _ => ?_) (fun e => absurd (decide_eq_true rfl) e)⟩
      exact ⟨_, rfl, m, dx, _, rfl, hA.1, mF_none _ _ _ (by decide +kernel) (by decide +kernel), _, rfl, pt, _, 0, .int z, rfl, rfl, sq_of hpt, atI_nat (j := 0) rfl, m, dx, st, z, w, rfl, S⟩
    | c3 z =>
      cases hL
      iterate 2 refine ⟨_, rfl, rfl, _, rfl, ite2 (fun e => absurd (V.int.inj (of_decide_eq_true e)) (by decide)) (fun _ => ?_)⟩
      refine ⟨_, rfl, rfl, _, rfl, ite2 (fun _ => ?_) (fun e => absurd (decide_eq_true rfl) e)⟩
      exact ⟨_, rfl, m, dx, _, rfl, hA.1, mF_none _ _ _ (by decide +kernel) (by decide +kernel), _, rfl, pt, _, 0, .int z, rfl, rfl, sq_of hpt, atI_nat (j := 0) rfl, m, dx, st, z, w, rfl, S⟩
    | c4 =>
      iterate 3 refine ⟨_, rfl, rfl, _, rfl, ite2 (fun e => absurd (V.int.inj (of_decide_eq_true e)) (by decide)) (fun _ => ?_)⟩
      refine ⟨_, rfl, rfl, _, rfl, ite2 (fun _ => ?_) (fun e => absurd (decide_eq_true rfl) e)⟩
      exact ⟨_, rfl, m, dx, _, rfl, hA.1, mF_none _ _ _ (by decide +kernel) (by decide +kernel), m, w, rfl, S.query rfl⟩
    | c5 z =>
      cases hL
      iterate 4 refine ⟨_, rfl, rfl, _, rfl, ite2 (fun e => absurd (V.int.inj (of_decide_eq_true e)) (by decide)) (fun _ => ?_)⟩
      refine ⟨_, rfl, rfl, _, rfl, ite2 (fun _ => ?_) (fun e => absurd (decide_eq_true rfl) e)⟩
      exact ⟨_, rfl, m, dx, _, rfl, hA.1, mF_none _ _ _ (by decide +kernel) (by decide +kernel), _, rfl, pt, _, 0, .int z, rfl, rfl, sq_of hpt, atI_nat (j := 0) rfl, m, z, w, rfl, S.query rfl⟩
    | c6 z =>
      cases hL
      iterate 5 refine ⟨_, rfl, rfl, _, rfl, ite2 (fun e => absurd (V.int.inj (of_decide_eq_true e)) (by decide)) (fun _ => ?_)⟩
      refine ⟨_, rfl, rfl, _, rfl, ite2 (fun _ => ?_) (fun e => absurd (decide_eq_true rfl) e)⟩
      exact ⟨_, rfl, m, dx, _, rfl, hA.1, mF_none _ _ _ (by decide +kernel) (by decide +kernel), _, rfl, pt, _, 0, .int z, rfl, rfl, sq_of hpt, atI_nat (j := 0) rfl, m, z, w, rfl, S.query rfl⟩
    | c7 z =>
      cases hL
      iterate 6 refine ⟨_, rfl, rfl, _, rfl, ite2 (fun e => absurd (V.int.inj (of_decide_eq_true e)) (by decide)) (fun _ => ?_)⟩
      refine ⟨_, rfl, rfl, _, rfl, ite2 (fun _ => ?_) (fun e => absurd (decide_eq_true rfl) e)⟩
      exact ⟨_, rfl, m, dx, _, rfl, hA.1, mF_none _ _ _ (by decide +kernel) (by decide +kernel), _, rfl, pt, _, 0, .int z, rfl, rfl, sq_of hpt, atI_nat (j := 0) rfl, m, z, w, rfl, S.query rfl⟩
    | c8 f g =>
      cases hL with
      | cons h1 hL =>
        cases hL with
        | cons h2 hL =>
          cases hL
          iterate 7 refine ⟨_, rfl, rfl, _, rfl, ite2 (fun e => absurd (V.int.inj (of_decide_eq_true e)) (by decide)) (fun _ => ?_)⟩
          refine ⟨_, rfl, rfl, _, rfl, ite2 (fun _ => ?_) (fun e => absurd (decide_eq_true rfl) e)⟩
          exact ⟨_, rfl, m, dx, _, rfl, hA.1, mF_none _ _ _ (by decide +kernel) (by decide +kernel), _, rfl, pt, _, 0, _, rfl, rfl, sq_of hpt, atI_nat (j := 0) rfl, _, rfl, pt, _, 1, _, rfl, rfl, sq_of hpt, atI_nat (j := 1) rfl, m, _, _, f, g, w, rfl, h1.1, h2.1, S.query rfl⟩
    | c9 z =>
      cases hL
      iterate 8 refine ⟨_, rfl, rfl, _, rfl, ite2 (fun e => absurd (V.int.inj (of_decide_eq_true e)) (by decide)) (fun _ => ?_)⟩
      refine ⟨_, rfl, rfl, _, rfl, ite2 (fun _ => ?_) (fun e => absurd (decide_eq_true rfl) e)⟩
      exact ⟨_, rfl, m, dx, _, rfl, hA.1, mF_none _ _ _ (by decide +kernel) (by decide +kernel), _, rfl, pt, _, 0, .int z, rfl, rfl, sq_of hpt, atI_nat (j := 0) rfl, m, z, w, rfl, S.query rfl⟩
    | c10 z =>
      cases hL
      iterate 9 refine ⟨_, rfl, rfl, _, rfl, ite2 (fun e => absurd (V.int.inj (of_decide_eq_true e)) (by decide)) (fun _ => ?_)⟩
      refine ⟨_, rfl, rfl, _, rfl, ite2 (fun _ => ?_) (fun e => absurd (decide_eq_true rfl) e)⟩
      exact ⟨_, rfl, m, dx, _, rfl, hA.1, mF_none _ _ _ (by decide +kernel) (by decide +kernel), _, rfl, pt, _, 0, .int z, rfl, rfl, sq_of hpt, atI_nat (j := 0) rfl, m, z, w, rfl, S.query rfl⟩
    | c11 z =>
      cases hL
      iterate 10 refine ⟨_, rfl, rfl, _, rfl, ite2 (fun e => absurd (V.int.inj (of_decide_eq_true e)) (by decide)) (fun _ => ?_)⟩
      refine ⟨_, rfl, rfl, _, rfl, ite2 (fun _ => ?_) (fun e => absurd (decide_eq_true rfl) e)⟩
      exact ⟨_, rfl, m, dx, _, rfl, hA.1, mF_none _ _ _ (by decide +kernel) (by decide +kernel), _, rfl, pt, _, 0, .int z, rfl, rfl, sq_of hpt, atI_nat (j := 0) rfl, m, z, w, rfl, S.query rfl⟩
    | c12 =>
      iterate 11 refine ⟨_, rfl, rfl, _, rfl, ite2 (fun e => absurd (V.int.inj (of_decide_eq_true e)) (by decide)) (fun _ => ?_)⟩
      refine ⟨_, rfl, rfl, _, rfl, ite2 (fun _ => ?_) (fun e => absurd (decide_eq_true rfl) e)⟩
      exact ⟨_, rfl, m, dx, _, rfl, hA.1, mF_none _ _ _ (by decide +kernel) (by decide +kernel), m, w, rfl, S.query rfl⟩
    | c13 z =>
      cases hL
      iterate 12 refine ⟨_, rfl, rfl, _, rfl, ite2 (fun e => absurd (V.int.inj (of_decide_eq_true e)) (by decide)) (fun _ => ?_)⟩
      refine ⟨_, rfl, rfl, _, rfl, ite2 (fun _ => ?_) (fun e => absurd (decide_eq_true rfl) e)⟩
      exact ⟨_, rfl, m, dx, _, rfl, hA.1, mF_none _ _ _ (by decide +kernel) (by decide +kernel), _, rfl, pt, _, 0, .int z, rfl, rfl, sq_of hpt, atI_nat (j := 0) rfl, m, z, w, rfl, S.query rfl⟩
    | c14 =>
      iterate 13 refine ⟨_, rfl, rfl, _, rfl, ite2 (fun e => absurd (V.int.inj (of_decide_eq_true e)) (by decide)) (fun _ => ?_)⟩
      refine ⟨_, rfl, rfl, _, rfl, ite2 (fun _ => ?_) (fun e => absurd (decide_eq_true rfl) e)⟩
      exact ⟨_, rfl, m, dx, _, rfl, hA.1, mF_none _ _ _ (by decide +kernel) (by decide +kernel), m, w, rfl, S.query rfl⟩
    | c15 r =>
      cases hL with
      | cons h1 hL =>
        cases hL
        iterate 14 refine ⟨_, rfl, rfl, _, rfl, ite2 (fun e => absurd (V.int.inj (of_decide_eq_true e)) (by decide)) (fun _ => ?_)⟩
        refine ⟨_, rfl, rfl, _, rfl, ite2 (fun _ => ?_) (fun e => absurd (decide_eq_true rfl) e)⟩
        exact ⟨_, rfl, m, dx, _, rfl, hA.1, mF_none _ _ _ (by decide +kernel) (by decide +kernel), _, rfl, pt, _, 0, _, rfl, rfl, sq_of hpt, atI_nat (j := 0) rfl, m, _, r, w, rfl, h1.1, hls r (List.mem_cons_self ..), S.query rfl⟩
    | c16 =>
      iterate 15 refine ⟨_, rfl, rfl, _, rfl, ite2 (fun e => absurd (V.int.inj (of_decide_eq_true e)) (by decide)) (fun _ => ?_)⟩
      exact ⟨_, rfl, m, dx, _, rfl, hA.1, mF_none _ _ _ (by decide +kernel) (by decide +kernel), m, w, rfl, S.query rfl⟩
end
end Jw
namespace Jw
open PySem PySem.Spec PyProof.Rows L2
section
variable {P : Program} {w : World} {K : PySem.W.Frag} {mg : Str → Option Value} {base : Heap} {A : Adr}
theorem the_answers {fd : FuncData} (F : Fun K "answers" "answers" s_answers A.f_answers fd) (T : Txt K mg A) : FnOk P w K mg base CX0 6 A.f_answers fd ["calls"] (sp_answers K) := by
  have D_joints_of : Df P w K mg base 1 A.f_joints_of ["row"] (sp_joints_of K) := ok_joints_of T
  have D_joint_bits : Df P w K mg base 2 A.f_joint_bits ["row"] (sp_joint_bits K) := ok_joint_bits T D_joints_of
  have D_is_compatible : Df P w K mg base 3 A.f_is_compatible ["first", "second"] (sp_is_compatible K) := ok_is_compatible T D_joint_bits
  have D_compatible_rows : Df P w K mg base 3 A.f_compatible_rows ["rows"] sp_compatible_rows := ok_compatible_rows T D_joint_bits
  have D_rows_of_total : Df P w K mg base 1 A.f_rows_of_total ["total", "stone_lengths", "rows_by_total"] (sp_rows_of_total K) := ok_rows_of_total T
  have D_rows_of : Df P w K mg base 2 A.f_rows_of ["length", "stone_lengths"] (sp_rows_of K) := ok_rows_of T D_rows_of_total
  have D_is_row : Df P w K mg base 1 A.f_is_row ["stones", "length", "stone_lengths"] (sp_is_row K) := ok_is_row T
  have D_is_length : Df P w K mg base 1 A.f_is_length ["number"] sp_is_length := ok_is_length T
  have D_is_total : Df P w K mg base 1 A.f_is_total ["number"] sp_is_total := ok_is_total T
  have D_yes_or_no : Df P w K mg base 1 A.f_yes_or_no ["truth"] sp_yes_or_no := ok_yes_or_no T
  have D_counted : Df P w K mg base 1 A.f_counted ["numbers"] sp_counted := ok_counted T
  have D_fewest_stones : Df P w K mg base 1 A.f_fewest_stones ["stone_lengths"] (sp_fewest_stones K) := ok_fewest_stones T
  have D_one_row_higher : Df P w K mg base 1 A.f_one_row_higher ["counts", "compatible"] (sp_one_row_higher K) := ok_one_row_higher T
  have D_count_walls : Df P w K mg base 2 A.f_count_walls ["height", "compatible"] (sp_count_walls K) := ok_count_walls T D_one_row_higher
  have D_wall_upon : Df P w K mg base 1 A.f_wall_upon ["lowest", "height", "compatible"] sp_wall_upon := ok_wall_upon T
  have D_find_first_wall : Df P w K mg base 2 A.f_find_first_wall ["height", "compatible"] sp_find_first_wall := ok_find_first_wall T D_wall_upon
  have D_find_loneliest : Df P w K mg base 1 A.f_find_loneliest ["compatible"] sp_find_loneliest := ok_find_loneliest T
  have D_is_wall : Df P w K mg base 1 A.f_is_wall ["numbers", "compatible"] sp_is_wall := ok_is_wall T
  have D_Reader_number : Df P w K mg base 1 A.f_Reader_number ["self"] (sp_Reader_number A.c_Reader) := ok_Reader_number T
  have D_Reader_number_list : Df P w K mg base 2 A.f_Reader_number_list ["self"] (sp_Reader_number_list A.c_Reader) := ok_Reader_number_list T D_Reader_number
  have D_Masonry_rows : Df P w K mg base 3 A.f_Masonry_rows ["self"] (sp_Masonry_rows A.c_Masonry) := ok_Masonry_rows T D_rows_of
  have D_answer_of : Df P w K mg base 5 A.f_answer_of ["masonry", "operation", "parts"] (sp_answer_of A.c_Masonry) :=
    ok_answer_of T (ok_Masonry_add_stone_length T D_is_length) (ok_Masonry_remove_stone_length T) (ok_Masonry_set_length T D_is_length) (ok_Masonry_row_count T D_Masonry_rows) (ok_Masonry_row T D_Masonry_rows D_counted)
      (ok_Masonry_joints T D_Masonry_rows D_counted D_joints_of) (ok_Masonry_compatible_count T D_Masonry_rows D_is_compatible) (ok_Masonry_are_compatible T D_is_row D_is_compatible D_yes_or_no)
      (ok_Masonry_wall_count T D_Masonry_rows D_compatible_rows D_count_walls) (ok_Masonry_first_wall T D_Masonry_rows D_compatible_rows D_find_first_wall D_counted) (ok_Masonry_is_possible_length T D_is_total D_yes_or_no D_fewest_stones)
      (ok_Masonry_impossible_lengths T D_fewest_stones) (ok_Masonry_min_stones T D_is_total D_fewest_stones) (ok_Masonry_loneliest_row T D_Masonry_rows D_compatible_rows D_find_loneliest)
      (ok_Masonry_check_wall T D_Masonry_rows D_compatible_rows D_is_wall D_yes_or_no) (ok_Masonry_describe T D_counted)
  exact fn_answers F T (ok_Reader_init T) (ok_Reader_has_more T) D_Reader_number (ok_Reader_parts T D_Reader_number D_Reader_number_list) D_is_length (ok_Masonry_init T) D_answer_of
end
/-- what is asked of the calls -/
theorem asked_is {l : List Int} (h : PySr112.answers_asked l = true) : (∃ f cs, PyFlat.calls PySr112.shape f l = some cs ∧ PySr112.answers l = PyFlat.told (PyFlat.played Sr112Neutral.step Sr112Neutral.start cs)) ∧ (PySr112.answers l).length ≤ 10000000 := by
  unfold PySr112.answers_asked at h
  have ea := answers_is l
  cases e : PyFlat.calls PySr112.shape l.length l with
  | none =>
    rw [e] at h
    cases h
  | some cs =>
    rw [e] at h ea
    simp only [Bool.and_eq_true] at h
    refine ⟨⟨l.length, cs, e, ea⟩, ?_⟩
    exact of_decide_eq_true h.2
end Jw
namespace Jw
open PySem PySem.Spec PyProof.Rows L2
theorem fb_mk {K : PySem.W.Frag} {x qual : Str} {st : Stmt} {f : Addr} {ps : List Str} {kV doc pm cdv ct : Value} {an : Option Addr} (F : Fun K x qual st f (PySem.W.fnOf x qual (defArgs st) (defBody st) (defScope st) .none kV doc pm an cdv ct))
    (h : ∀ (kV doc pm : Value) (an : Option Addr) (cdv ct : Value) (us : List Value), us.length = ps.length → bindArgs (PySem.W.fnOf x qual (defArgs st) (defBody st) (defScope st) .none kV doc pm an cdv ct) ⟨us, []⟩ = pure (ps.zip us)) : FB K x qual st f ps := ⟨_, F, F.binds h⟩
theorem tab_top {K : PySem.W.Frag} {a : Addr} {its : Array Value} {xs : List V} (h : K.lookup a = some { cls := .type "tuple", data := .seq its }) (hz : its.size ≤ sizeLine) (hv : Vals xs its.toList) : ∀ H : Hp, SqT K H a xs := fun _ => .inr ⟨_, its, _, h, rfl, rfl, hz, hv⟩
theorem tab_rows {K : PySem.W.Frag} {ts : List Addr} {rows : List (List Int)} (h : Paired (fun t r => ∀ H : Hp, SqT K H t (r.map V.int)) ts rows) : ∀ (i : Nat) (t : Addr) (r : List Int), ts[i]? = some t → rows[i]? = some r → ∀ H, SqT K H t (r.map V.int) := by
  intro i t r h1 h2
  obtain ⟨r', h3, h4⟩ := paired_get' h h1
  rw [h2] at h3
  cases h3
  exact h4
theorem txt_mk {K : PySem.W.Frag} {h : Heap} {mg : Str → Option Value} (X : K.In h) (G : h.Ns mainGlobals mg) {f0 f1 f2 f3 f4 f5 f6 f7 f8 f9 f10 f11 f12 f13 f14 f15 f16 f17 f18 f19 f20 f21 f22 f23 f24 f25 f26 f27 f28 f29 f30 f31 f32 f33 f34 f35 f36 f37 f38 f39 f40 f41 f42 C_Reader C_Masonry T_SHAPES T_SHAPES_0 T_SHAPES_1 T_SHAPES_2 T_SHAPES_3 T_SHAPES_4 T_SHAPES_5 T_SHAPES_6 T_SHAPES_7 T_SHAPES_8 T_SHAPES_9 T_SHAPES_10 T_SHAPES_11 T_SHAPES_12 T_SHAPES_13 T_SHAPES_14 T_SHAPES_15 T_SHAPES_16 : Addr}
    {od0 an0 od1 an1 od2 an2 od3 an3 od4 an4 od5 an5 od6 an6 od7 an7 od8 an8 od9 an9 od10 an10 od11 an11 od12 an12 od13 an13 od14 an14 od15 an15 od16 an16 od17 an17 od18 an18 od19 an19 od20 an20 od21 an21 od22 an22 od23 an23 od24 an24 od25 an25 od26 an26 od27 an27 od28 an28 od29 an29 od30 an30 od31 an31 od32 an32 od33 an33 od34 an34 od35 an35 od36 an36 od37 an37 od38 an38 od39 an39 od40 an40 od41 an41 od42 an42 : Option Addr} {sl0 sl1 sl2 sl3 sl4 sl5 sl6 sl7 sl8 sl9 sl10 sl11 sl12 sl13 sl14 sl15 sl16 sl17 sl18 sl19 sl20 sl21 sl22 sl23 sl24 sl25 sl26 sl27 sl28 sl29 sl30 sl31 sl32 sl33 sl34 sl35 sl36 sl37 sl38 sl39 sl40 sl41 sl42 : Array (Option Value)} {oc0 kV0 dc0 pm0 cd0 ct0 oc1 kV1 dc1 pm1 cd1 ct1 oc2 kV2 dc2 pm2 cd2 ct2 oc3 kV3 dc3 pm3 cd3 ct3 oc4 kV4 dc4 pm4 cd4 ct4 oc5 kV5 dc5 pm5 cd5 ct5 oc6 kV6 dc6 pm6 cd6 ct6 oc7 kV7 dc7 pm7 cd7 ct7 oc8 kV8 dc8 pm8 cd8 ct8 oc9 kV9 dc9 pm9 cd9 ct9 oc10 kV10 dc10 pm10 cd10 ct10 oc11 kV11 dc11 pm11 cd11 ct11 oc12 kV12 dc12 pm12 cd12 ct12 oc13 kV13 dc13 pm13 cd13 ct13 oc14 kV14 dc14 pm14 cd14 ct14 oc15 kV15 dc15 pm15 cd15 ct15 oc16 kV16 dc16 pm16 cd16 ct16 oc17 kV17 dc17 pm17 cd17 ct17 oc18 kV18 dc18 pm18 cd18 ct18 oc19 kV19 dc19 pm19 cd19 ct19 oc20 kV20 dc20 pm20 cd20 ct20 oc21 kV21 dc21 pm21 cd21 ct21 oc22 kV22 dc22 pm22 cd22 ct22 oc23 kV23 dc23 pm23 cd23 ct23 oc24 kV24 dc24 pm24 cd24 ct24 oc25 kV25 dc25 pm25 cd25 ct25 oc26 kV26 dc26 pm26 cd26 ct26 oc27 kV27 dc27 pm27 cd27 ct27 oc28 kV28 dc28 pm28 cd28 ct28 oc29 kV29 dc29 pm29 cd29 ct29 oc30 kV30 dc30 pm30 cd30 ct30 oc31 kV31 dc31 pm31 cd31 ct31 oc32 kV32 dc32 pm32 cd32 ct32 oc33 kV33 dc33 pm33 cd33 ct33 oc34 kV34 dc34 pm34 cd34 ct34 oc35 kV35 dc35 pm35 cd35 ct35 oc36 kV36 dc36 pm36 cd36 ct36 oc37 kV37 dc37 pm37 cd37 ct37 oc38 kV38 dc38 pm38 cd38 ct38 oc39 kV39 dc39 pm39 cd39 ct39 oc40 kV40 dc40 pm40 cd40 ct40 oc41 kV41 dc41 pm41 cd41 ct41 oc42 kV42 dc42 pm42 cd42 ct42 : Value} {u_GREATEST_TOTAL u_NO_INSTANCE u_NOT_THERE u_ALREADY_THERE u_OUT_OF_RANGE u_TOO_MANY u_NONE_SUCH u_GREATEST_LENGTH u_MOST_STONE_LENGTHS u_GREATEST_HEIGHT u_MOST_LENGTHS_TOLD u_CREATE u_ADD_STONE_LENGTH u_REMOVE_STONE_LENGTH u_SET_LENGTH u_ROW_COUNT u_ROW u_JOINTS u_COMPATIBLE_COUNT u_ARE_COMPATIBLE u_WALL_COUNT u_FIRST_WALL u_IS_POSSIBLE_LENGTH u_IMPOSSIBLE_LENGTHS u_MIN_STONES u_LONELIEST_ROW u_CHECK_WALL u_SHAPES_0_0 u_SHAPES_0_1 u_SHAPES_1_0 u_SHAPES_1_1 u_SHAPES_2_0 u_SHAPES_2_1 u_SHAPES_3_0 u_SHAPES_3_1 u_SHAPES_4_0 u_SHAPES_4_1 u_SHAPES_5_0 u_SHAPES_5_1 u_SHAPES_6_0 u_SHAPES_6_1 u_SHAPES_7_0 u_SHAPES_7_1 u_SHAPES_8_0 u_SHAPES_8_1 u_SHAPES_9_0 u_SHAPES_9_1 u_SHAPES_10_0 u_SHAPES_10_1 u_SHAPES_11_0 u_SHAPES_11_1 u_SHAPES_12_0 u_SHAPES_12_1 u_SHAPES_13_0 u_SHAPES_13_1 u_SHAPES_14_0 u_SHAPES_14_1 u_SHAPES_15_0 u_SHAPES_15_1 u_SHAPES_16_0 u_SHAPES_16_1 : Tok}
    (ac_Reader : PySem.W.nsIn K mainGlobals "Reader" = some (some (.ref C_Reader)))
    (ac_Masonry : PySem.W.nsIn K mainGlobals "Masonry" = some (some (.ref C_Masonry)))
    (a0 : PySem.W.nsIn K mainGlobals "rows_of" = some (some (.ref f0)))
    (l0 : K.lookup f0 = some ⟨oc0, od0, .func (PySem.W.fnOf "rows_of" "rows_of" (defArgs s_rows_of) (defBody s_rows_of) (defScope s_rows_of) .none kV0 dc0 pm0 an0 cd0 ct0), sl0⟩)
    (d0 : PySem.W.codeIn K cd0 "rows_of" = true)
    (k0 : PySem.W.keepIn K (.ref f0) = true)
    (a1 : PySem.W.nsIn K mainGlobals "rows_of_total" = some (some (.ref f1)))
    (l1 : K.lookup f1 = some ⟨oc1, od1, .func (PySem.W.fnOf "rows_of_total" "rows_of_total" (defArgs s_rows_of_total) (defBody s_rows_of_total) (defScope s_rows_of_total) .none kV1 dc1 pm1 an1 cd1 ct1), sl1⟩)
    (d1 : PySem.W.codeIn K cd1 "rows_of_total" = true)
    (k1 : PySem.W.keepIn K (.ref f1) = true)
    (a2 : PySem.W.nsIn K mainGlobals "is_row" = some (some (.ref f2)))
    (l2 : K.lookup f2 = some ⟨oc2, od2, .func (PySem.W.fnOf "is_row" "is_row" (defArgs s_is_row) (defBody s_is_row) (defScope s_is_row) .none kV2 dc2 pm2 an2 cd2 ct2), sl2⟩)
    (d2 : PySem.W.codeIn K cd2 "is_row" = true)
    (k2 : PySem.W.keepIn K (.ref f2) = true)
    (a3 : PySem.W.nsIn K mainGlobals "joints_of" = some (some (.ref f3)))
    (l3 : K.lookup f3 = some ⟨oc3, od3, .func (PySem.W.fnOf "joints_of" "joints_of" (defArgs s_joints_of) (defBody s_joints_of) (defScope s_joints_of) .none kV3 dc3 pm3 an3 cd3 ct3), sl3⟩)
    (d3 : PySem.W.codeIn K cd3 "joints_of" = true)
    (k3 : PySem.W.keepIn K (.ref f3) = true)
    (a4 : PySem.W.nsIn K mainGlobals "joint_bits" = some (some (.ref f4)))
    (l4 : K.lookup f4 = some ⟨oc4, od4, .func (PySem.W.fnOf "joint_bits" "joint_bits" (defArgs s_joint_bits) (defBody s_joint_bits) (defScope s_joint_bits) .none kV4 dc4 pm4 an4 cd4 ct4), sl4⟩)
    (d4 : PySem.W.codeIn K cd4 "joint_bits" = true)
    (k4 : PySem.W.keepIn K (.ref f4) = true)
    (a5 : PySem.W.nsIn K mainGlobals "is_compatible" = some (some (.ref f5)))
    (l5 : K.lookup f5 = some ⟨oc5, od5, .func (PySem.W.fnOf "is_compatible" "is_compatible" (defArgs s_is_compatible) (defBody s_is_compatible) (defScope s_is_compatible) .none kV5 dc5 pm5 an5 cd5 ct5), sl5⟩)
    (d5 : PySem.W.codeIn K cd5 "is_compatible" = true)
    (k5 : PySem.W.keepIn K (.ref f5) = true)
    (a6 : PySem.W.nsIn K mainGlobals "compatible_rows" = some (some (.ref f6)))
    (l6 : K.lookup f6 = some ⟨oc6, od6, .func (PySem.W.fnOf "compatible_rows" "compatible_rows" (defArgs s_compatible_rows) (defBody s_compatible_rows) (defScope s_compatible_rows) .none kV6 dc6 pm6 an6 cd6 ct6), sl6⟩)
    (d6 : PySem.W.codeIn K cd6 "compatible_rows" = true)
    (k6 : PySem.W.keepIn K (.ref f6) = true)
    (a7 : PySem.W.nsIn K mainGlobals "fewest_stones" = some (some (.ref f7)))
    (l7 : K.lookup f7 = some ⟨oc7, od7, .func (PySem.W.fnOf "fewest_stones" "fewest_stones" (defArgs s_fewest_stones) (defBody s_fewest_stones) (defScope s_fewest_stones) .none kV7 dc7 pm7 an7 cd7 ct7), sl7⟩)
    (d7 : PySem.W.codeIn K cd7 "fewest_stones" = true)
    (k7 : PySem.W.keepIn K (.ref f7) = true)
    (a8 : PySem.W.nsIn K mainGlobals "count_walls" = some (some (.ref f8)))
    (l8 : K.lookup f8 = some ⟨oc8, od8, .func (PySem.W.fnOf "count_walls" "count_walls" (defArgs s_count_walls) (defBody s_count_walls) (defScope s_count_walls) .none kV8 dc8 pm8 an8 cd8 ct8), sl8⟩)
    (d8 : PySem.W.codeIn K cd8 "count_walls" = true)
    (k8 : PySem.W.keepIn K (.ref f8) = true)
    (a9 : PySem.W.nsIn K mainGlobals "one_row_higher" = some (some (.ref f9)))
    (l9 : K.lookup f9 = some ⟨oc9, od9, .func (PySem.W.fnOf "one_row_higher" "one_row_higher" (defArgs s_one_row_higher) (defBody s_one_row_higher) (defScope s_one_row_higher) .none kV9 dc9 pm9 an9 cd9 ct9), sl9⟩)
    (d9 : PySem.W.codeIn K cd9 "one_row_higher" = true)
    (k9 : PySem.W.keepIn K (.ref f9) = true)
    (a10 : PySem.W.nsIn K mainGlobals "find_first_wall" = some (some (.ref f10)))
    (l10 : K.lookup f10 = some ⟨oc10, od10, .func (PySem.W.fnOf "find_first_wall" "find_first_wall" (defArgs s_find_first_wall) (defBody s_find_first_wall) (defScope s_find_first_wall) .none kV10 dc10 pm10 an10 cd10 ct10), sl10⟩)
    (d10 : PySem.W.codeIn K cd10 "find_first_wall" = true)
    (k10 : PySem.W.keepIn K (.ref f10) = true)
    (a11 : PySem.W.nsIn K mainGlobals "wall_upon" = some (some (.ref f11)))
    (l11 : K.lookup f11 = some ⟨oc11, od11, .func (PySem.W.fnOf "wall_upon" "wall_upon" (defArgs s_wall_upon) (defBody s_wall_upon) (defScope s_wall_upon) .none kV11 dc11 pm11 an11 cd11 ct11), sl11⟩)
    (d11 : PySem.W.codeIn K cd11 "wall_upon" = true)
    (k11 : PySem.W.keepIn K (.ref f11) = true)
    (a12 : PySem.W.nsIn K mainGlobals "find_loneliest" = some (some (.ref f12)))
    (l12 : K.lookup f12 = some ⟨oc12, od12, .func (PySem.W.fnOf "find_loneliest" "find_loneliest" (defArgs s_find_loneliest) (defBody s_find_loneliest) (defScope s_find_loneliest) .none kV12 dc12 pm12 an12 cd12 ct12), sl12⟩)
    (d12 : PySem.W.codeIn K cd12 "find_loneliest" = true)
    (k12 : PySem.W.keepIn K (.ref f12) = true)
    (a13 : PySem.W.nsIn K mainGlobals "is_wall" = some (some (.ref f13)))
    (l13 : K.lookup f13 = some ⟨oc13, od13, .func (PySem.W.fnOf "is_wall" "is_wall" (defArgs s_is_wall) (defBody s_is_wall) (defScope s_is_wall) .none kV13 dc13 pm13 an13 cd13 ct13), sl13⟩)
    (d13 : PySem.W.codeIn K cd13 "is_wall" = true)
    (k13 : PySem.W.keepIn K (.ref f13) = true)
    (a14 : PySem.W.nsIn K mainGlobals "answers" = some (some (.ref f14)))
    (l14 : K.lookup f14 = some ⟨oc14, od14, .func (PySem.W.fnOf "answers" "answers" (defArgs s_answers) (defBody s_answers) (defScope s_answers) .none kV14 dc14 pm14 an14 cd14 ct14), sl14⟩)
    (d14 : PySem.W.codeIn K cd14 "answers" = true)
    (k14 : PySem.W.keepIn K (.ref f14) = true)
    (a15 : PySem.W.nsIn K mainGlobals "answer_of" = some (some (.ref f15)))
    (l15 : K.lookup f15 = some ⟨oc15, od15, .func (PySem.W.fnOf "answer_of" "answer_of" (defArgs s_answer_of) (defBody s_answer_of) (defScope s_answer_of) .none kV15 dc15 pm15 an15 cd15 ct15), sl15⟩)
    (d15 : PySem.W.codeIn K cd15 "answer_of" = true)
    (k15 : PySem.W.keepIn K (.ref f15) = true)
    (a16 : PySem.W.nsIn K mainGlobals "is_length" = some (some (.ref f16)))
    (l16 : K.lookup f16 = some ⟨oc16, od16, .func (PySem.W.fnOf "is_length" "is_length" (defArgs s_is_length) (defBody s_is_length) (defScope s_is_length) .none kV16 dc16 pm16 an16 cd16 ct16), sl16⟩)
    (d16 : PySem.W.codeIn K cd16 "is_length" = true)
    (k16 : PySem.W.keepIn K (.ref f16) = true)
    (a17 : PySem.W.nsIn K mainGlobals "is_total" = some (some (.ref f17)))
    (l17 : K.lookup f17 = some ⟨oc17, od17, .func (PySem.W.fnOf "is_total" "is_total" (defArgs s_is_total) (defBody s_is_total) (defScope s_is_total) .none kV17 dc17 pm17 an17 cd17 ct17), sl17⟩)
    (d17 : PySem.W.codeIn K cd17 "is_total" = true)
    (k17 : PySem.W.keepIn K (.ref f17) = true)
    (a18 : PySem.W.nsIn K mainGlobals "yes_or_no" = some (some (.ref f18)))
    (l18 : K.lookup f18 = some ⟨oc18, od18, .func (PySem.W.fnOf "yes_or_no" "yes_or_no" (defArgs s_yes_or_no) (defBody s_yes_or_no) (defScope s_yes_or_no) .none kV18 dc18 pm18 an18 cd18 ct18), sl18⟩)
    (d18 : PySem.W.codeIn K cd18 "yes_or_no" = true)
    (k18 : PySem.W.keepIn K (.ref f18) = true)
    (a19 : PySem.W.nsIn K mainGlobals "counted" = some (some (.ref f19)))
    (l19 : K.lookup f19 = some ⟨oc19, od19, .func (PySem.W.fnOf "counted" "counted" (defArgs s_counted) (defBody s_counted) (defScope s_counted) .none kV19 dc19 pm19 an19 cd19 ct19), sl19⟩)
    (d19 : PySem.W.codeIn K cd19 "counted" = true)
    (k19 : PySem.W.keepIn K (.ref f19) = true)
    (a20 : PySem.W.findIn K (.ref C_Reader) "__init__" = some (some (.ref f20)))
    (i20 : PySem.W.isFn K (.ref f20) = true)
    (l20 : K.lookup f20 = some ⟨oc20, od20, .func (PySem.W.fnOf "__init__" "Reader.__init__" (defArgs s_Reader_init) (defBody s_Reader_init) (defScope s_Reader_init) .none kV20 dc20 pm20 an20 cd20 ct20), sl20⟩)
    (d20 : PySem.W.codeIn K cd20 "Reader.__init__" = true)
    (k20 : PySem.W.keepIn K (.ref f20) = true)
    (a21 : PySem.W.findIn K (.ref C_Reader) "has_more" = some (some (.ref f21)))
    (i21 : PySem.W.isFn K (.ref f21) = true)
    (l21 : K.lookup f21 = some ⟨oc21, od21, .func (PySem.W.fnOf "has_more" "Reader.has_more" (defArgs s_Reader_has_more) (defBody s_Reader_has_more) (defScope s_Reader_has_more) .none kV21 dc21 pm21 an21 cd21 ct21), sl21⟩)
    (d21 : PySem.W.codeIn K cd21 "Reader.has_more" = true)
    (k21 : PySem.W.keepIn K (.ref f21) = true)
    (a22 : PySem.W.findIn K (.ref C_Reader) "number" = some (some (.ref f22)))
    (i22 : PySem.W.isFn K (.ref f22) = true)
    (l22 : K.lookup f22 = some ⟨oc22, od22, .func (PySem.W.fnOf "number" "Reader.number" (defArgs s_Reader_number) (defBody s_Reader_number) (defScope s_Reader_number) .none kV22 dc22 pm22 an22 cd22 ct22), sl22⟩)
    (d22 : PySem.W.codeIn K cd22 "Reader.number" = true)
    (k22 : PySem.W.keepIn K (.ref f22) = true)
    (a23 : PySem.W.findIn K (.ref C_Reader) "number_list" = some (some (.ref f23)))
    (i23 : PySem.W.isFn K (.ref f23) = true)
    (l23 : K.lookup f23 = some ⟨oc23, od23, .func (PySem.W.fnOf "number_list" "Reader.number_list" (defArgs s_Reader_number_list) (defBody s_Reader_number_list) (defScope s_Reader_number_list) .none kV23 dc23 pm23 an23 cd23 ct23), sl23⟩)
    (d23 : PySem.W.codeIn K cd23 "Reader.number_list" = true)
    (k23 : PySem.W.keepIn K (.ref f23) = true)
    (a24 : PySem.W.findIn K (.ref C_Reader) "parts" = some (some (.ref f24)))
    (i24 : PySem.W.isFn K (.ref f24) = true)
    (l24 : K.lookup f24 = some ⟨oc24, od24, .func (PySem.W.fnOf "parts" "Reader.parts" (defArgs s_Reader_parts) (defBody s_Reader_parts) (defScope s_Reader_parts) .none kV24 dc24 pm24 an24 cd24 ct24), sl24⟩)
    (d24 : PySem.W.codeIn K cd24 "Reader.parts" = true)
    (k24 : PySem.W.keepIn K (.ref f24) = true)
    (a25 : PySem.W.findIn K (.ref C_Masonry) "__init__" = some (some (.ref f25)))
    (i25 : PySem.W.isFn K (.ref f25) = true)
    (l25 : K.lookup f25 = some ⟨oc25, od25, .func (PySem.W.fnOf "__init__" "Masonry.__init__" (defArgs s_Masonry_init) (defBody s_Masonry_init) (defScope s_Masonry_init) .none kV25 dc25 pm25 an25 cd25 ct25), sl25⟩)
    (d25 : PySem.W.codeIn K cd25 "Masonry.__init__" = true)
    (k25 : PySem.W.keepIn K (.ref f25) = true)
    (a26 : PySem.W.findIn K (.ref C_Masonry) "rows" = some (some (.ref f26)))
    (i26 : PySem.W.isFn K (.ref f26) = true)
    (l26 : K.lookup f26 = some ⟨oc26, od26, .func (PySem.W.fnOf "rows" "Masonry.rows" (defArgs s_Masonry_rows) (defBody s_Masonry_rows) (defScope s_Masonry_rows) .none kV26 dc26 pm26 an26 cd26 ct26), sl26⟩)
    (d26 : PySem.W.codeIn K cd26 "Masonry.rows" = true)
    (k26 : PySem.W.keepIn K (.ref f26) = true)
    (a27 : PySem.W.findIn K (.ref C_Masonry) "add_stone_length" = some (some (.ref f27)))
    (i27 : PySem.W.isFn K (.ref f27) = true)
    (l27 : K.lookup f27 = some ⟨oc27, od27, .func (PySem.W.fnOf "add_stone_length" "Masonry.add_stone_length" (defArgs s_Masonry_add_stone_length) (defBody s_Masonry_add_stone_length) (defScope s_Masonry_add_stone_length) .none kV27 dc27 pm27 an27 cd27 ct27), sl27⟩)
    (d27 : PySem.W.codeIn K cd27 "Masonry.add_stone_length" = true)
    (k27 : PySem.W.keepIn K (.ref f27) = true)
    (a28 : PySem.W.findIn K (.ref C_Masonry) "remove_stone_length" = some (some (.ref f28)))
    (i28 : PySem.W.isFn K (.ref f28) = true)
    (l28 : K.lookup f28 = some ⟨oc28, od28, .func (PySem.W.fnOf "remove_stone_length" "Masonry.remove_stone_length" (defArgs s_Masonry_remove_stone_length) (defBody s_Masonry_remove_stone_length) (defScope s_Masonry_remove_stone_length) .none kV28 dc28 pm28 an28 cd28 ct28), sl28⟩)
    (d28 : PySem.W.codeIn K cd28 "Masonry.remove_stone_length" = true)
    (k28 : PySem.W.keepIn K (.ref f28) = true)
    (a29 : PySem.W.findIn K (.ref C_Masonry) "set_length" = some (some (.ref f29)))
    (i29 : PySem.W.isFn K (.ref f29) = true)
    (l29 : K.lookup f29 = some ⟨oc29, od29, .func (PySem.W.fnOf "set_length" "Masonry.set_length" (defArgs s_Masonry_set_length) (defBody s_Masonry_set_length) (defScope s_Masonry_set_length) .none kV29 dc29 pm29 an29 cd29 ct29), sl29⟩)
    (d29 : PySem.W.codeIn K cd29 "Masonry.set_length" = true)
    (k29 : PySem.W.keepIn K (.ref f29) = true)
    (a30 : PySem.W.findIn K (.ref C_Masonry) "row_count" = some (some (.ref f30)))
    (i30 : PySem.W.isFn K (.ref f30) = true)
    (l30 : K.lookup f30 = some ⟨oc30, od30, .func (PySem.W.fnOf "row_count" "Masonry.row_count" (defArgs s_Masonry_row_count) (defBody s_Masonry_row_count) (defScope s_Masonry_row_count) .none kV30 dc30 pm30 an30 cd30 ct30), sl30⟩)
    (d30 : PySem.W.codeIn K cd30 "Masonry.row_count" = true)
    (k30 : PySem.W.keepIn K (.ref f30) = true)
    (a31 : PySem.W.findIn K (.ref C_Masonry) "row" = some (some (.ref f31)))
    (i31 : PySem.W.isFn K (.ref f31) = true)
    (l31 : K.lookup f31 = some ⟨oc31, od31, .func (PySem.W.fnOf "row" "Masonry.row" (defArgs s_Masonry_row) (defBody s_Masonry_row) (defScope s_Masonry_row) .none kV31 dc31 pm31 an31 cd31 ct31), sl31⟩)
    (d31 : PySem.W.codeIn K cd31 "Masonry.row" = true)
    (k31 : PySem.W.keepIn K (.ref f31) = true)
    (a32 : PySem.W.findIn K (.ref C_Masonry) "joints" = some (some (.ref f32)))
    (i32 : PySem.W.isFn K (.ref f32) = true)
    (l32 : K.lookup f32 = some ⟨oc32, od32, .func (PySem.W.fnOf "joints" "Masonry.joints" (defArgs s_Masonry_joints) (defBody s_Masonry_joints) (defScope s_Masonry_joints) .none kV32 dc32 pm32 an32 cd32 ct32), sl32⟩)
    (d32 : PySem.W.codeIn K cd32 "Masonry.joints" = true)
    (k32 : PySem.W.keepIn K (.ref f32) = true)
    (a33 : PySem.W.findIn K (.ref C_Masonry) "compatible_count" = some (some (.ref f33)))
    (i33 : PySem.W.isFn K (.ref f33) = true)
    (l33 : K.lookup f33 = some ⟨oc33, od33, .func (PySem.W.fnOf "compatible_count" "Masonry.compatible_count" (defArgs s_Masonry_compatible_count) (defBody s_Masonry_compatible_count) (defScope s_Masonry_compatible_count) .none kV33 dc33 pm33 an33 cd33 ct33), sl33⟩)
    (d33 : PySem.W.codeIn K cd33 "Masonry.compatible_count" = true)
    (k33 : PySem.W.keepIn K (.ref f33) = true)
    (a34 : PySem.W.findIn K (.ref C_Masonry) "are_compatible" = some (some (.ref f34)))
    (i34 : PySem.W.isFn K (.ref f34) = true)
    (l34 : K.lookup f34 = some ⟨oc34, od34, .func (PySem.W.fnOf "are_compatible" "Masonry.are_compatible" (defArgs s_Masonry_are_compatible) (defBody s_Masonry_are_compatible) (defScope s_Masonry_are_compatible) .none kV34 dc34 pm34 an34 cd34 ct34), sl34⟩)
    (d34 : PySem.W.codeIn K cd34 "Masonry.are_compatible" = true)
    (k34 : PySem.W.keepIn K (.ref f34) = true)
    (a35 : PySem.W.findIn K (.ref C_Masonry) "wall_count" = some (some (.ref f35)))
    (i35 : PySem.W.isFn K (.ref f35) = true)
    (l35 : K.lookup f35 = some ⟨oc35, od35, .func (PySem.W.fnOf "wall_count" "Masonry.wall_count" (defArgs s_Masonry_wall_count) (defBody s_Masonry_wall_count) (defScope s_Masonry_wall_count) .none kV35 dc35 pm35 an35 cd35 ct35), sl35⟩)
    (d35 : PySem.W.codeIn K cd35 "Masonry.wall_count" = true)
    (k35 : PySem.W.keepIn K (.ref f35) = true)
    (a36 : PySem.W.findIn K (.ref C_Masonry) "first_wall" = some (some (.ref f36)))
    (i36 : PySem.W.isFn K (.ref f36) = true)
    (l36 : K.lookup f36 = some ⟨oc36, od36, .func (PySem.W.fnOf "first_wall" "Masonry.first_wall" (defArgs s_Masonry_first_wall) (defBody s_Masonry_first_wall) (defScope s_Masonry_first_wall) .none kV36 dc36 pm36 an36 cd36 ct36), sl36⟩)
    (d36 : PySem.W.codeIn K cd36 "Masonry.first_wall" = true)
    (k36 : PySem.W.keepIn K (.ref f36) = true)
    (a37 : PySem.W.findIn K (.ref C_Masonry) "is_possible_length" = some (some (.ref f37)))
    (i37 : PySem.W.isFn K (.ref f37) = true)
    (l37 : K.lookup f37 = some ⟨oc37, od37, .func (PySem.W.fnOf "is_possible_length" "Masonry.is_possible_length" (defArgs s_Masonry_is_possible_length) (defBody s_Masonry_is_possible_length) (defScope s_Masonry_is_possible_length) .none kV37 dc37 pm37 an37 cd37 ct37), sl37⟩)
    (d37 : PySem.W.codeIn K cd37 "Masonry.is_possible_length" = true)
    (k37 : PySem.W.keepIn K (.ref f37) = true)
    (a38 : PySem.W.findIn K (.ref C_Masonry) "impossible_lengths" = some (some (.ref f38)))
    (i38 : PySem.W.isFn K (.ref f38) = true)
    (l38 : K.lookup f38 = some ⟨oc38, od38, .func (PySem.W.fnOf "impossible_lengths" "Masonry.impossible_lengths" (defArgs s_Masonry_impossible_lengths) (defBody s_Masonry_impossible_lengths) (defScope s_Masonry_impossible_lengths) .none kV38 dc38 pm38 an38 cd38 ct38), sl38⟩)
    (d38 : PySem.W.codeIn K cd38 "Masonry.impossible_lengths" = true)
    (k38 : PySem.W.keepIn K (.ref f38) = true)
    (a39 : PySem.W.findIn K (.ref C_Masonry) "min_stones" = some (some (.ref f39)))
    (i39 : PySem.W.isFn K (.ref f39) = true)
    (l39 : K.lookup f39 = some ⟨oc39, od39, .func (PySem.W.fnOf "min_stones" "Masonry.min_stones" (defArgs s_Masonry_min_stones) (defBody s_Masonry_min_stones) (defScope s_Masonry_min_stones) .none kV39 dc39 pm39 an39 cd39 ct39), sl39⟩)
    (d39 : PySem.W.codeIn K cd39 "Masonry.min_stones" = true)
    (k39 : PySem.W.keepIn K (.ref f39) = true)
    (a40 : PySem.W.findIn K (.ref C_Masonry) "loneliest_row" = some (some (.ref f40)))
    (i40 : PySem.W.isFn K (.ref f40) = true)
    (l40 : K.lookup f40 = some ⟨oc40, od40, .func (PySem.W.fnOf "loneliest_row" "Masonry.loneliest_row" (defArgs s_Masonry_loneliest_row) (defBody s_Masonry_loneliest_row) (defScope s_Masonry_loneliest_row) .none kV40 dc40 pm40 an40 cd40 ct40), sl40⟩)
    (d40 : PySem.W.codeIn K cd40 "Masonry.loneliest_row" = true)
    (k40 : PySem.W.keepIn K (.ref f40) = true)
    (a41 : PySem.W.findIn K (.ref C_Masonry) "check_wall" = some (some (.ref f41)))
    (i41 : PySem.W.isFn K (.ref f41) = true)
    (l41 : K.lookup f41 = some ⟨oc41, od41, .func (PySem.W.fnOf "check_wall" "Masonry.check_wall" (defArgs s_Masonry_check_wall) (defBody s_Masonry_check_wall) (defScope s_Masonry_check_wall) .none kV41 dc41 pm41 an41 cd41 ct41), sl41⟩)
    (d41 : PySem.W.codeIn K cd41 "Masonry.check_wall" = true)
    (k41 : PySem.W.keepIn K (.ref f41) = true)
    (a42 : PySem.W.findIn K (.ref C_Masonry) "describe" = some (some (.ref f42)))
    (i42 : PySem.W.isFn K (.ref f42) = true)
    (l42 : K.lookup f42 = some ⟨oc42, od42, .func (PySem.W.fnOf "describe" "Masonry.describe" (defArgs s_Masonry_describe) (defBody s_Masonry_describe) (defScope s_Masonry_describe) .none kV42 dc42 pm42 an42 cd42 ct42), sl42⟩)
    (d42 : PySem.W.codeIn K cd42 "Masonry.describe" = true)
    (k42 : PySem.W.keepIn K (.ref f42) = true)
    (pg_Reader : PySem.W.plainGet K C_Reader Str.empty = true)
    (hd_Reader : PySem.W.hasDictIn K C_Reader = true)
    (po_Reader : PySem.W.plainOver K C_Reader = true)
    (sa_Reader : PySem.W.findIn K (.ref C_Reader) "__setattr__" = some (some (.builtin "object.__setattr__")))
    (mk_Reader : PySem.W.makesIn K C_Reader = true)
    (kc_Reader : PySem.W.keepIn K (.ref C_Reader) = true)
    (n_Reader_calls : PySem.W.findIn K (.ref C_Reader) "calls" = some none)
    (n_Reader_place : PySem.W.findIn K (.ref C_Reader) "place" = some none)
    (pg_Masonry : PySem.W.plainGet K C_Masonry Str.empty = true)
    (hd_Masonry : PySem.W.hasDictIn K C_Masonry = true)
    (po_Masonry : PySem.W.plainOver K C_Masonry = true)
    (sa_Masonry : PySem.W.findIn K (.ref C_Masonry) "__setattr__" = some (some (.builtin "object.__setattr__")))
    (mk_Masonry : PySem.W.makesIn K C_Masonry = true)
    (kc_Masonry : PySem.W.keepIn K (.ref C_Masonry) = true)
    (n_Masonry_length : PySem.W.findIn K (.ref C_Masonry) "length" = some none)
    (n_Masonry_stone_lengths : PySem.W.findIn K (.ref C_Masonry) "stone_lengths" = some none)
    (c_GREATEST_TOTAL : PySem.W.nsIn K mainGlobals "GREATEST_TOTAL" = some (some (.int (60) u_GREATEST_TOTAL)))
    (c_NO_INSTANCE : PySem.W.nsIn K mainGlobals "NO_INSTANCE" = some (some (.int (-11) u_NO_INSTANCE)))
    (c_NOT_THERE : PySem.W.nsIn K mainGlobals "NOT_THERE" = some (some (.int (-2) u_NOT_THERE)))
    (c_ALREADY_THERE : PySem.W.nsIn K mainGlobals "ALREADY_THERE" = some (some (.int (-17) u_ALREADY_THERE)))
    (c_OUT_OF_RANGE : PySem.W.nsIn K mainGlobals "OUT_OF_RANGE" = some (some (.int (-22) u_OUT_OF_RANGE)))
    (c_TOO_MANY : PySem.W.nsIn K mainGlobals "TOO_MANY" = some (some (.int (-28) u_TOO_MANY)))
    (c_NONE_SUCH : PySem.W.nsIn K mainGlobals "NONE_SUCH" = some (some (.int (-33) u_NONE_SUCH)))
    (c_GREATEST_LENGTH : PySem.W.nsIn K mainGlobals "GREATEST_LENGTH" = some (some (.int (9) u_GREATEST_LENGTH)))
    (c_MOST_STONE_LENGTHS : PySem.W.nsIn K mainGlobals "MOST_STONE_LENGTHS" = some (some (.int (4) u_MOST_STONE_LENGTHS)))
    (c_GREATEST_HEIGHT : PySem.W.nsIn K mainGlobals "GREATEST_HEIGHT" = some (some (.int (8) u_GREATEST_HEIGHT)))
    (c_MOST_LENGTHS_TOLD : PySem.W.nsIn K mainGlobals "MOST_LENGTHS_TOLD" = some (some (.int (20) u_MOST_LENGTHS_TOLD)))
    (c_CREATE : PySem.W.nsIn K mainGlobals "CREATE" = some (some (.int (0) u_CREATE)))
    (c_ADD_STONE_LENGTH : PySem.W.nsIn K mainGlobals "ADD_STONE_LENGTH" = some (some (.int (1) u_ADD_STONE_LENGTH)))
    (c_REMOVE_STONE_LENGTH : PySem.W.nsIn K mainGlobals "REMOVE_STONE_LENGTH" = some (some (.int (2) u_REMOVE_STONE_LENGTH)))
    (c_SET_LENGTH : PySem.W.nsIn K mainGlobals "SET_LENGTH" = some (some (.int (3) u_SET_LENGTH)))
    (c_ROW_COUNT : PySem.W.nsIn K mainGlobals "ROW_COUNT" = some (some (.int (4) u_ROW_COUNT)))
    (c_ROW : PySem.W.nsIn K mainGlobals "ROW" = some (some (.int (5) u_ROW)))
    (c_JOINTS : PySem.W.nsIn K mainGlobals "JOINTS" = some (some (.int (6) u_JOINTS)))
    (c_COMPATIBLE_COUNT : PySem.W.nsIn K mainGlobals "COMPATIBLE_COUNT" = some (some (.int (7) u_COMPATIBLE_COUNT)))
    (c_ARE_COMPATIBLE : PySem.W.nsIn K mainGlobals "ARE_COMPATIBLE" = some (some (.int (8) u_ARE_COMPATIBLE)))
    (c_WALL_COUNT : PySem.W.nsIn K mainGlobals "WALL_COUNT" = some (some (.int (9) u_WALL_COUNT)))
    (c_FIRST_WALL : PySem.W.nsIn K mainGlobals "FIRST_WALL" = some (some (.int (10) u_FIRST_WALL)))
    (c_IS_POSSIBLE_LENGTH : PySem.W.nsIn K mainGlobals "IS_POSSIBLE_LENGTH" = some (some (.int (11) u_IS_POSSIBLE_LENGTH)))
    (c_IMPOSSIBLE_LENGTHS : PySem.W.nsIn K mainGlobals "IMPOSSIBLE_LENGTHS" = some (some (.int (12) u_IMPOSSIBLE_LENGTHS)))
    (c_MIN_STONES : PySem.W.nsIn K mainGlobals "MIN_STONES" = some (some (.int (13) u_MIN_STONES)))
    (c_LONELIEST_ROW : PySem.W.nsIn K mainGlobals "LONELIEST_ROW" = some (some (.int (14) u_LONELIEST_ROW)))
    (c_CHECK_WALL : PySem.W.nsIn K mainGlobals "CHECK_WALL" = some (some (.int (15) u_CHECK_WALL)))
    (c_SHAPES : PySem.W.nsIn K mainGlobals "SHAPES" = some (some (.ref T_SHAPES)))
    (t_SHAPES : K.lookup T_SHAPES = some { cls := .type "tuple", data := .seq #[.ref T_SHAPES_0, .ref T_SHAPES_1, .ref T_SHAPES_2, .ref T_SHAPES_3, .ref T_SHAPES_4, .ref T_SHAPES_5, .ref T_SHAPES_6, .ref T_SHAPES_7, .ref T_SHAPES_8, .ref T_SHAPES_9, .ref T_SHAPES_10, .ref T_SHAPES_11, .ref T_SHAPES_12, .ref T_SHAPES_13, .ref T_SHAPES_14, .ref T_SHAPES_15, .ref T_SHAPES_16] })
    (t_SHAPES_0 : K.lookup T_SHAPES_0 = some { cls := .type "tuple", data := .seq #[.int 1 u_SHAPES_0_0, .int 0 u_SHAPES_0_1] })
    (t_SHAPES_1 : K.lookup T_SHAPES_1 = some { cls := .type "tuple", data := .seq #[.int 1 u_SHAPES_1_0, .int 0 u_SHAPES_1_1] })
    (t_SHAPES_2 : K.lookup T_SHAPES_2 = some { cls := .type "tuple", data := .seq #[.int 1 u_SHAPES_2_0, .int 0 u_SHAPES_2_1] })
    (t_SHAPES_3 : K.lookup T_SHAPES_3 = some { cls := .type "tuple", data := .seq #[.int 1 u_SHAPES_3_0, .int 0 u_SHAPES_3_1] })
    (t_SHAPES_4 : K.lookup T_SHAPES_4 = some { cls := .type "tuple", data := .seq #[.int 0 u_SHAPES_4_0, .int 0 u_SHAPES_4_1] })
    (t_SHAPES_5 : K.lookup T_SHAPES_5 = some { cls := .type "tuple", data := .seq #[.int 1 u_SHAPES_5_0, .int 0 u_SHAPES_5_1] })
    (t_SHAPES_6 : K.lookup T_SHAPES_6 = some { cls := .type "tuple", data := .seq #[.int 1 u_SHAPES_6_0, .int 0 u_SHAPES_6_1] })
    (t_SHAPES_7 : K.lookup T_SHAPES_7 = some { cls := .type "tuple", data := .seq #[.int 1 u_SHAPES_7_0, .int 0 u_SHAPES_7_1] })
    (t_SHAPES_8 : K.lookup T_SHAPES_8 = some { cls := .type "tuple", data := .seq #[.int 0 u_SHAPES_8_0, .int 2 u_SHAPES_8_1] })
    (t_SHAPES_9 : K.lookup T_SHAPES_9 = some { cls := .type "tuple", data := .seq #[.int 1 u_SHAPES_9_0, .int 0 u_SHAPES_9_1] })
    (t_SHAPES_10 : K.lookup T_SHAPES_10 = some { cls := .type "tuple", data := .seq #[.int 1 u_SHAPES_10_0, .int 0 u_SHAPES_10_1] })
    (t_SHAPES_11 : K.lookup T_SHAPES_11 = some { cls := .type "tuple", data := .seq #[.int 1 u_SHAPES_11_0, .int 0 u_SHAPES_11_1] })
    (t_SHAPES_12 : K.lookup T_SHAPES_12 = some { cls := .type "tuple", data := .seq #[.int 0 u_SHAPES_12_0, .int 0 u_SHAPES_12_1] })
    (t_SHAPES_13 : K.lookup T_SHAPES_13 = some { cls := .type "tuple", data := .seq #[.int 1 u_SHAPES_13_0, .int 0 u_SHAPES_13_1] })
    (t_SHAPES_14 : K.lookup T_SHAPES_14 = some { cls := .type "tuple", data := .seq #[.int 0 u_SHAPES_14_0, .int 0 u_SHAPES_14_1] })
    (t_SHAPES_15 : K.lookup T_SHAPES_15 = some { cls := .type "tuple", data := .seq #[.int 0 u_SHAPES_15_0, .int 1 u_SHAPES_15_1] })
    (t_SHAPES_16 : K.lookup T_SHAPES_16 = some { cls := .type "tuple", data := .seq #[.int 0 u_SHAPES_16_0, .int 0 u_SHAPES_16_1] })
    (b_len : PySem.W.nsIn K mainGlobals "len" = some none)
    (b_list : PySem.W.nsIn K mainGlobals "list" = some none)
    (b_min : PySem.W.nsIn K mainGlobals "min" = some none)
    (b_range : PySem.W.nsIn K mainGlobals "range" = some none)
    (b_sorted : PySem.W.nsIn K mainGlobals "sorted" = some none)
    (b_sum : PySem.W.nsIn K mainGlobals "sum" = some none)
    : Txt K mg ⟨f0, f1, f2, f3, f4, f5, f6, f7, f8, f9, f10, f11, f12, f13, f14, f15, f16, f17, f18, f19, f20, f21, f22, f23, f24, f25, f26, f27, f28, f29, f30, f31, f32, f33, f34, f35, f36, f37, f38, f39, f40, f41, f42, C_Reader, C_Masonry, T_SHAPES⟩ where
  F_rows_of := fb_mk (ps := ["length", "stone_lengths"]) (fun_mk (st := s_rows_of) l0 d0 k0) fun _ _ _ _ _ _ us hl => match us, hl with | [_, _], _ => rfl
  g_rows_of := PySem.W.mg_of X G a0
  F_rows_of_total := fb_mk (ps := ["total", "stone_lengths", "rows_by_total"]) (fun_mk (st := s_rows_of_total) l1 d1 k1) fun _ _ _ _ _ _ us hl => match us, hl with | [_, _, _], _ => rfl
  g_rows_of_total := PySem.W.mg_of X G a1
  F_is_row := fb_mk (ps := ["stones", "length", "stone_lengths"]) (fun_mk (st := s_is_row) l2 d2 k2) fun _ _ _ _ _ _ us hl => match us, hl with | [_, _, _], _ => rfl
  g_is_row := PySem.W.mg_of X G a2
  F_joints_of := fb_mk (ps := ["row"]) (fun_mk (st := s_joints_of) l3 d3 k3) fun _ _ _ _ _ _ us hl => match us, hl with | [_], _ => rfl
  g_joints_of := PySem.W.mg_of X G a3
  F_joint_bits := fb_mk (ps := ["row"]) (fun_mk (st := s_joint_bits) l4 d4 k4) fun _ _ _ _ _ _ us hl => match us, hl with | [_], _ => rfl
  g_joint_bits := PySem.W.mg_of X G a4
  F_is_compatible := fb_mk (ps := ["first", "second"]) (fun_mk (st := s_is_compatible) l5 d5 k5) fun _ _ _ _ _ _ us hl => match us, hl with | [_, _], _ => rfl
  g_is_compatible := PySem.W.mg_of X G a5
  F_compatible_rows := fb_mk (ps := ["rows"]) (fun_mk (st := s_compatible_rows) l6 d6 k6) fun _ _ _ _ _ _ us hl => match us, hl with | [_], _ => rfl
  g_compatible_rows := PySem.W.mg_of X G a6
  F_fewest_stones := fb_mk (ps := ["stone_lengths"]) (fun_mk (st := s_fewest_stones) l7 d7 k7) fun _ _ _ _ _ _ us hl => match us, hl with | [_], _ => rfl
  g_fewest_stones := PySem.W.mg_of X G a7
  F_count_walls := fb_mk (ps := ["height", "compatible"]) (fun_mk (st := s_count_walls) l8 d8 k8) fun _ _ _ _ _ _ us hl => match us, hl with | [_, _], _ => rfl
  g_count_walls := PySem.W.mg_of X G a8
  F_one_row_higher := fb_mk (ps := ["counts", "compatible"]) (fun_mk (st := s_one_row_higher) l9 d9 k9) fun _ _ _ _ _ _ us hl => match us, hl with | [_, _], _ => rfl
  g_one_row_higher := PySem.W.mg_of X G a9
  F_find_first_wall := fb_mk (ps := ["height", "compatible"]) (fun_mk (st := s_find_first_wall) l10 d10 k10) fun _ _ _ _ _ _ us hl => match us, hl with | [_, _], _ => rfl
  g_find_first_wall := PySem.W.mg_of X G a10
  F_wall_upon := fb_mk (ps := ["lowest", "height", "compatible"]) (fun_mk (st := s_wall_upon) l11 d11 k11) fun _ _ _ _ _ _ us hl => match us, hl with | [_, _, _], _ => rfl
  g_wall_upon := PySem.W.mg_of X G a11
  F_find_loneliest := fb_mk (ps := ["compatible"]) (fun_mk (st := s_find_loneliest) l12 d12 k12) fun _ _ _ _ _ _ us hl => match us, hl with | [_], _ => rfl
  g_find_loneliest := PySem.W.mg_of X G a12
  F_is_wall := fb_mk (ps := ["numbers", "compatible"]) (fun_mk (st := s_is_wall) l13 d13 k13) fun _ _ _ _ _ _ us hl => match us, hl with | [_, _], _ => rfl
  g_is_wall := PySem.W.mg_of X G a13
  F_answers := fb_mk (ps := ["calls"]) (fun_mk (st := s_answers) l14 d14 k14) fun _ _ _ _ _ _ us hl => match us, hl with | [_], _ => rfl
  g_answers := PySem.W.mg_of X G a14
  F_answer_of := fb_mk (ps := ["masonry", "operation", "parts"]) (fun_mk (st := s_answer_of) l15 d15 k15) fun _ _ _ _ _ _ us hl => match us, hl with | [_, _, _], _ => rfl
  g_answer_of := PySem.W.mg_of X G a15
  F_is_length := fb_mk (ps := ["number"]) (fun_mk (st := s_is_length) l16 d16 k16) fun _ _ _ _ _ _ us hl => match us, hl with | [_], _ => rfl
  g_is_length := PySem.W.mg_of X G a16
  F_is_total := fb_mk (ps := ["number"]) (fun_mk (st := s_is_total) l17 d17 k17) fun _ _ _ _ _ _ us hl => match us, hl with | [_], _ => rfl
  g_is_total := PySem.W.mg_of X G a17
  F_yes_or_no := fb_mk (ps := ["truth"]) (fun_mk (st := s_yes_or_no) l18 d18 k18) fun _ _ _ _ _ _ us hl => match us, hl with | [_], _ => rfl
  g_yes_or_no := PySem.W.mg_of X G a18
  F_counted := fb_mk (ps := ["numbers"]) (fun_mk (st := s_counted) l19 d19 k19) fun _ _ _ _ _ _ us hl => match us, hl with | [_], _ => rfl
  g_counted := PySem.W.mg_of X G a19
  F_Reader_init := fb_mk (ps := ["self", "calls"]) (fun_mk (st := s_Reader_init) l20 d20 k20) fun _ _ _ _ _ _ us hl => match us, hl with | [_, _], _ => rfl
  F_Reader_has_more := fb_mk (ps := ["self"]) (fun_mk (st := s_Reader_has_more) l21 d21 k21) fun _ _ _ _ _ _ us hl => match us, hl with | [_], _ => rfl
  m_Reader_has_more := ⟨a21, i21, k21⟩
  F_Reader_number := fb_mk (ps := ["self"]) (fun_mk (st := s_Reader_number) l22 d22 k22) fun _ _ _ _ _ _ us hl => match us, hl with | [_], _ => rfl
  m_Reader_number := ⟨a22, i22, k22⟩
  F_Reader_number_list := fb_mk (ps := ["self"]) (fun_mk (st := s_Reader_number_list) l23 d23 k23) fun _ _ _ _ _ _ us hl => match us, hl with | [_], _ => rfl
  m_Reader_number_list := ⟨a23, i23, k23⟩
  F_Reader_parts := fb_mk (ps := ["self", "operation"]) (fun_mk (st := s_Reader_parts) l24 d24 k24) fun _ _ _ _ _ _ us hl => match us, hl with | [_, _], _ => rfl
  m_Reader_parts := ⟨a24, i24, k24⟩
  F_Masonry_init := fb_mk (ps := ["self", "length"]) (fun_mk (st := s_Masonry_init) l25 d25 k25) fun _ _ _ _ _ _ us hl => match us, hl with | [_, _], _ => rfl
  F_Masonry_rows := fb_mk (ps := ["self"]) (fun_mk (st := s_Masonry_rows) l26 d26 k26) fun _ _ _ _ _ _ us hl => match us, hl with | [_], _ => rfl
  m_Masonry_rows := ⟨a26, i26, k26⟩
  F_Masonry_add_stone_length := fb_mk (ps := ["self", "k"]) (fun_mk (st := s_Masonry_add_stone_length) l27 d27 k27) fun _ _ _ _ _ _ us hl => match us, hl with | [_, _], _ => rfl
  m_Masonry_add_stone_length := ⟨a27, i27, k27⟩
  F_Masonry_remove_stone_length := fb_mk (ps := ["self", "k"]) (fun_mk (st := s_Masonry_remove_stone_length) l28 d28 k28) fun _ _ _ _ _ _ us hl => match us, hl with | [_, _], _ => rfl
  m_Masonry_remove_stone_length := ⟨a28, i28, k28⟩
  F_Masonry_set_length := fb_mk (ps := ["self", "length"]) (fun_mk (st := s_Masonry_set_length) l29 d29 k29) fun _ _ _ _ _ _ us hl => match us, hl with | [_, _], _ => rfl
  m_Masonry_set_length := ⟨a29, i29, k29⟩
  F_Masonry_row_count := fb_mk (ps := ["self"]) (fun_mk (st := s_Masonry_row_count) l30 d30 k30) fun _ _ _ _ _ _ us hl => match us, hl with | [_], _ => rfl
  m_Masonry_row_count := ⟨a30, i30, k30⟩
  F_Masonry_row := fb_mk (ps := ["self", "i"]) (fun_mk (st := s_Masonry_row) l31 d31 k31) fun _ _ _ _ _ _ us hl => match us, hl with | [_, _], _ => rfl
  m_Masonry_row := ⟨a31, i31, k31⟩
  F_Masonry_joints := fb_mk (ps := ["self", "i"]) (fun_mk (st := s_Masonry_joints) l32 d32 k32) fun _ _ _ _ _ _ us hl => match us, hl with | [_, _], _ => rfl
  m_Masonry_joints := ⟨a32, i32, k32⟩
  F_Masonry_compatible_count := fb_mk (ps := ["self", "i"]) (fun_mk (st := s_Masonry_compatible_count) l33 d33 k33) fun _ _ _ _ _ _ us hl => match us, hl with | [_, _], _ => rfl
  m_Masonry_compatible_count := ⟨a33, i33, k33⟩
  F_Masonry_are_compatible := fb_mk (ps := ["self", "first", "second"]) (fun_mk (st := s_Masonry_are_compatible) l34 d34 k34) fun _ _ _ _ _ _ us hl => match us, hl with | [_, _, _], _ => rfl
  m_Masonry_are_compatible := ⟨a34, i34, k34⟩
  F_Masonry_wall_count := fb_mk (ps := ["self", "height"]) (fun_mk (st := s_Masonry_wall_count) l35 d35 k35) fun _ _ _ _ _ _ us hl => match us, hl with | [_, _], _ => rfl
  m_Masonry_wall_count := ⟨a35, i35, k35⟩
  F_Masonry_first_wall := fb_mk (ps := ["self", "height"]) (fun_mk (st := s_Masonry_first_wall) l36 d36 k36) fun _ _ _ _ _ _ us hl => match us, hl with | [_, _], _ => rfl
  m_Masonry_first_wall := ⟨a36, i36, k36⟩
  F_Masonry_is_possible_length := fb_mk (ps := ["self", "m"]) (fun_mk (st := s_Masonry_is_possible_length) l37 d37 k37) fun _ _ _ _ _ _ us hl => match us, hl with | [_, _], _ => rfl
  m_Masonry_is_possible_length := ⟨a37, i37, k37⟩
  F_Masonry_impossible_lengths := fb_mk (ps := ["self"]) (fun_mk (st := s_Masonry_impossible_lengths) l38 d38 k38) fun _ _ _ _ _ _ us hl => match us, hl with | [_], _ => rfl
  m_Masonry_impossible_lengths := ⟨a38, i38, k38⟩
  F_Masonry_min_stones := fb_mk (ps := ["self", "m"]) (fun_mk (st := s_Masonry_min_stones) l39 d39 k39) fun _ _ _ _ _ _ us hl => match us, hl with | [_, _], _ => rfl
  m_Masonry_min_stones := ⟨a39, i39, k39⟩
  F_Masonry_loneliest_row := fb_mk (ps := ["self"]) (fun_mk (st := s_Masonry_loneliest_row) l40 d40 k40) fun _ _ _ _ _ _ us hl => match us, hl with | [_], _ => rfl
  m_Masonry_loneliest_row := ⟨a40, i40, k40⟩
  F_Masonry_check_wall := fb_mk (ps := ["self", "numbers"]) (fun_mk (st := s_Masonry_check_wall) l41 d41 k41) fun _ _ _ _ _ _ us hl => match us, hl with | [_, _], _ => rfl
  m_Masonry_check_wall := ⟨a41, i41, k41⟩
  F_Masonry_describe := fb_mk (ps := ["self"]) (fun_mk (st := s_Masonry_describe) l42 d42 k42) fun _ _ _ _ _ _ us hl => match us, hl with | [_], _ => rfl
  m_Masonry_describe := ⟨a42, i42, k42⟩
  cl_Reader := ⟨pg_Reader, hd_Reader, po_Reader, sa_Reader⟩
  g_Reader := PySem.W.mg_of X G ac_Reader
  mk_Reader := ⟨mk_Reader, a20, i20, kc_Reader⟩
  n_Reader_calls := n_Reader_calls
  n_Reader_place := n_Reader_place
  cl_Masonry := ⟨pg_Masonry, hd_Masonry, po_Masonry, sa_Masonry⟩
  g_Masonry := PySem.W.mg_of X G ac_Masonry
  mk_Masonry := ⟨mk_Masonry, a25, i25, kc_Masonry⟩
  n_Masonry_length := n_Masonry_length
  n_Masonry_stone_lengths := n_Masonry_stone_lengths
  c_GREATEST_TOTAL := ⟨u_GREATEST_TOTAL, PySem.W.mg_of X G c_GREATEST_TOTAL⟩
  c_NO_INSTANCE := ⟨u_NO_INSTANCE, PySem.W.mg_of X G c_NO_INSTANCE⟩
  c_NOT_THERE := ⟨u_NOT_THERE, PySem.W.mg_of X G c_NOT_THERE⟩
  c_ALREADY_THERE := ⟨u_ALREADY_THERE, PySem.W.mg_of X G c_ALREADY_THERE⟩
  c_OUT_OF_RANGE := ⟨u_OUT_OF_RANGE, PySem.W.mg_of X G c_OUT_OF_RANGE⟩
  c_TOO_MANY := ⟨u_TOO_MANY, PySem.W.mg_of X G c_TOO_MANY⟩
  c_NONE_SUCH := ⟨u_NONE_SUCH, PySem.W.mg_of X G c_NONE_SUCH⟩
  c_GREATEST_LENGTH := ⟨u_GREATEST_LENGTH, PySem.W.mg_of X G c_GREATEST_LENGTH⟩
  c_MOST_STONE_LENGTHS := ⟨u_MOST_STONE_LENGTHS, PySem.W.mg_of X G c_MOST_STONE_LENGTHS⟩
  c_GREATEST_HEIGHT := ⟨u_GREATEST_HEIGHT, PySem.W.mg_of X G c_GREATEST_HEIGHT⟩
  c_MOST_LENGTHS_TOLD := ⟨u_MOST_LENGTHS_TOLD, PySem.W.mg_of X G c_MOST_LENGTHS_TOLD⟩
  c_CREATE := ⟨u_CREATE, PySem.W.mg_of X G c_CREATE⟩
  c_ADD_STONE_LENGTH := ⟨u_ADD_STONE_LENGTH, PySem.W.mg_of X G c_ADD_STONE_LENGTH⟩
  c_REMOVE_STONE_LENGTH := ⟨u_REMOVE_STONE_LENGTH, PySem.W.mg_of X G c_REMOVE_STONE_LENGTH⟩
  c_SET_LENGTH := ⟨u_SET_LENGTH, PySem.W.mg_of X G c_SET_LENGTH⟩
  c_ROW_COUNT := ⟨u_ROW_COUNT, PySem.W.mg_of X G c_ROW_COUNT⟩
  c_ROW := ⟨u_ROW, PySem.W.mg_of X G c_ROW⟩
  c_JOINTS := ⟨u_JOINTS, PySem.W.mg_of X G c_JOINTS⟩
  c_COMPATIBLE_COUNT := ⟨u_COMPATIBLE_COUNT, PySem.W.mg_of X G c_COMPATIBLE_COUNT⟩
  c_ARE_COMPATIBLE := ⟨u_ARE_COMPATIBLE, PySem.W.mg_of X G c_ARE_COMPATIBLE⟩
  c_WALL_COUNT := ⟨u_WALL_COUNT, PySem.W.mg_of X G c_WALL_COUNT⟩
  c_FIRST_WALL := ⟨u_FIRST_WALL, PySem.W.mg_of X G c_FIRST_WALL⟩
  c_IS_POSSIBLE_LENGTH := ⟨u_IS_POSSIBLE_LENGTH, PySem.W.mg_of X G c_IS_POSSIBLE_LENGTH⟩
  c_IMPOSSIBLE_LENGTHS := ⟨u_IMPOSSIBLE_LENGTHS, PySem.W.mg_of X G c_IMPOSSIBLE_LENGTHS⟩
  c_MIN_STONES := ⟨u_MIN_STONES, PySem.W.mg_of X G c_MIN_STONES⟩
  c_LONELIEST_ROW := ⟨u_LONELIEST_ROW, PySem.W.mg_of X G c_LONELIEST_ROW⟩
  c_CHECK_WALL := ⟨u_CHECK_WALL, PySem.W.mg_of X G c_CHECK_WALL⟩
  c_SHAPES := PySem.W.mg_of X G c_SHAPES
  t_SHAPES := ⟨[T_SHAPES_0, T_SHAPES_1, T_SHAPES_2, T_SHAPES_3, T_SHAPES_4, T_SHAPES_5, T_SHAPES_6, T_SHAPES_7, T_SHAPES_8, T_SHAPES_9, T_SHAPES_10, T_SHAPES_11, T_SHAPES_12, T_SHAPES_13, T_SHAPES_14, T_SHAPES_15, T_SHAPES_16], tab_top t_SHAPES (by show 17 ≤ sizeLine; decide) (.cons rfl (.cons rfl (.cons rfl (.cons rfl (.cons rfl (.cons rfl (.cons rfl (.cons rfl (.cons rfl (.cons rfl (.cons rfl (.cons rfl (.cons rfl (.cons rfl (.cons rfl (.cons rfl (.cons rfl (.nil)))))))))))))))))), rfl, tab_rows ((.cons (tab_top t_SHAPES_0 (by show 2 ≤ sizeLine; decide) (.cons ⟨_, rfl⟩ (.cons ⟨_, rfl⟩ (.nil)))) (.cons (tab_top t_SHAPES_1 (by show 2 ≤ sizeLine; decide) (.cons ⟨_, rfl⟩ (.cons ⟨_, rfl⟩ (.nil)))) (.cons (tab_top t_SHAPES_2 (by show 2 ≤ sizeLine; decide) (.cons ⟨_, rfl⟩ (.cons ⟨_, rfl⟩ (.nil)))) (.cons (tab_top t_SHAPES_3 (by show 2 ≤ sizeLine; decide) (.cons ⟨_, rfl⟩ (.cons ⟨_, rfl⟩ (.nil)))) (.cons (tab_top t_SHAPES_4 (by show 2 ≤ sizeLine; decide) (.cons ⟨_, rfl⟩ (.cons ⟨_, rfl⟩ (.nil)))) (.cons (tab_top t_SHAPES_5 (by show 2 ≤ sizeLine; decide) (.cons ⟨_, rfl⟩ (.cons ⟨_, rfl⟩ (.nil)))) (.cons (tab_top t_SHAPES_6 (by show 2 ≤ sizeLine; decide) (.cons ⟨_, rfl⟩ (.cons ⟨_, rfl⟩ (.nil)))) (.cons (tab_top t_SHAPES_7 (by show 2 ≤ sizeLine; decide) (.cons ⟨_, rfl⟩ (.cons ⟨_, rfl⟩ (.nil)))) (.cons (tab_top t_SHAPES_8 (by show 2 ≤ sizeLine; decide) (.cons ⟨_, rfl⟩ (.cons ⟨_, rfl⟩ (.nil)))) (.cons (tab_top t_SHAPES_9 (by show 2 ≤ sizeLine; decide) (.cons ⟨_, rfl⟩ (.cons ⟨_, rfl⟩ (.nil)))) (.cons (tab_top t_SHAPES_10 (by show 2 ≤ sizeLine; decide) (.cons ⟨_, rfl⟩ (.cons ⟨_, rfl⟩ (.nil)))) (.cons (tab_top t_SHAPES_11 (by show 2 ≤ sizeLine; decide) (.cons ⟨_, rfl⟩ (.cons ⟨_, rfl⟩ (.nil)))) (.cons (tab_top t_SHAPES_12 (by show 2 ≤ sizeLine; decide) (.cons ⟨_, rfl⟩ (.cons ⟨_, rfl⟩ (.nil)))) (.cons (tab_top t_SHAPES_13 (by show 2 ≤ sizeLine; decide) (.cons ⟨_, rfl⟩ (.cons ⟨_, rfl⟩ (.nil)))) (.cons (tab_top t_SHAPES_14 (by show 2 ≤ sizeLine; decide) (.cons ⟨_, rfl⟩ (.cons ⟨_, rfl⟩ (.nil)))) (.cons (tab_top t_SHAPES_15 (by show 2 ≤ sizeLine; decide) (.cons ⟨_, rfl⟩ (.cons ⟨_, rfl⟩ (.nil)))) (.cons (tab_top t_SHAPES_16 (by show 2 ≤ sizeLine; decide) (.cons ⟨_, rfl⟩ (.cons ⟨_, rfl⟩ (.nil))))  .nil))))))))))))))))))⟩
  b_len := PySem.W.mg_none_of X G b_len
  b_list := PySem.W.mg_none_of X G b_list
  b_min := PySem.W.mg_none_of X G b_min
  b_range := PySem.W.mg_none_of X G b_range
  b_sorted := PySem.W.mg_none_of X G b_sorted
  b_sum := PySem.W.mg_none_of X G b_sum
theorem all_mk {P : Program} {w : World} {K : PySem.W.Frag} {h : Heap} {mg : Str → Option Value} {fa : Addr} (X : K.In h) (G : h.Ns mainGlobals mg) (hfa : mg "answers" = some (.ref fa)) {f0 f1 f2 f3 f4 f5 f6 f7 f8 f9 f10 f11 f12 f13 f14 f15 f16 f17 f18 f19 f20 f21 f22 f23 f24 f25 f26 f27 f28 f29 f30 f31 f32 f33 f34 f35 f36 f37 f38 f39 f40 f41 f42 C_Reader C_Masonry T_SHAPES T_SHAPES_0 T_SHAPES_1 T_SHAPES_2 T_SHAPES_3 T_SHAPES_4 T_SHAPES_5 T_SHAPES_6 T_SHAPES_7 T_SHAPES_8 T_SHAPES_9 T_SHAPES_10 T_SHAPES_11 T_SHAPES_12 T_SHAPES_13 T_SHAPES_14 T_SHAPES_15 T_SHAPES_16 : Addr}
    {od0 an0 od1 an1 od2 an2 od3 an3 od4 an4 od5 an5 od6 an6 od7 an7 od8 an8 od9 an9 od10 an10 od11 an11 od12 an12 od13 an13 od14 an14 od15 an15 od16 an16 od17 an17 od18 an18 od19 an19 od20 an20 od21 an21 od22 an22 od23 an23 od24 an24 od25 an25 od26 an26 od27 an27 od28 an28 od29 an29 od30 an30 od31 an31 od32 an32 od33 an33 od34 an34 od35 an35 od36 an36 od37 an37 od38 an38 od39 an39 od40 an40 od41 an41 od42 an42 : Option Addr} {sl0 sl1 sl2 sl3 sl4 sl5 sl6 sl7 sl8 sl9 sl10 sl11 sl12 sl13 sl14 sl15 sl16 sl17 sl18 sl19 sl20 sl21 sl22 sl23 sl24 sl25 sl26 sl27 sl28 sl29 sl30 sl31 sl32 sl33 sl34 sl35 sl36 sl37 sl38 sl39 sl40 sl41 sl42 : Array (Option Value)} {oc0 kV0 dc0 pm0 cd0 ct0 oc1 kV1 dc1 pm1 cd1 ct1 oc2 kV2 dc2 pm2 cd2 ct2 oc3 kV3 dc3 pm3 cd3 ct3 oc4 kV4 dc4 pm4 cd4 ct4 oc5 kV5 dc5 pm5 cd5 ct5 oc6 kV6 dc6 pm6 cd6 ct6 oc7 kV7 dc7 pm7 cd7 ct7 oc8 kV8 dc8 pm8 cd8 ct8 oc9 kV9 dc9 pm9 cd9 ct9 oc10 kV10 dc10 pm10 cd10 ct10 oc11 kV11 dc11 pm11 cd11 ct11 oc12 kV12 dc12 pm12 cd12 ct12 oc13 kV13 dc13 pm13 cd13 ct13 oc14 kV14 dc14 pm14 cd14 ct14 oc15 kV15 dc15 pm15 cd15 ct15 oc16 kV16 dc16 pm16 cd16 ct16 oc17 kV17 dc17 pm17 cd17 ct17 oc18 kV18 dc18 pm18 cd18 ct18 oc19 kV19 dc19 pm19 cd19 ct19 oc20 kV20 dc20 pm20 cd20 ct20 oc21 kV21 dc21 pm21 cd21 ct21 oc22 kV22 dc22 pm22 cd22 ct22 oc23 kV23 dc23 pm23 cd23 ct23 oc24 kV24 dc24 pm24 cd24 ct24 oc25 kV25 dc25 pm25 cd25 ct25 oc26 kV26 dc26 pm26 cd26 ct26 oc27 kV27 dc27 pm27 cd27 ct27 oc28 kV28 dc28 pm28 cd28 ct28 oc29 kV29 dc29 pm29 cd29 ct29 oc30 kV30 dc30 pm30 cd30 ct30 oc31 kV31 dc31 pm31 cd31 ct31 oc32 kV32 dc32 pm32 cd32 ct32 oc33 kV33 dc33 pm33 cd33 ct33 oc34 kV34 dc34 pm34 cd34 ct34 oc35 kV35 dc35 pm35 cd35 ct35 oc36 kV36 dc36 pm36 cd36 ct36 oc37 kV37 dc37 pm37 cd37 ct37 oc38 kV38 dc38 pm38 cd38 ct38 oc39 kV39 dc39 pm39 cd39 ct39 oc40 kV40 dc40 pm40 cd40 ct40 oc41 kV41 dc41 pm41 cd41 ct41 oc42 kV42 dc42 pm42 cd42 ct42 : Value} {u_GREATEST_TOTAL u_NO_INSTANCE u_NOT_THERE u_ALREADY_THERE u_OUT_OF_RANGE u_TOO_MANY u_NONE_SUCH u_GREATEST_LENGTH u_MOST_STONE_LENGTHS u_GREATEST_HEIGHT u_MOST_LENGTHS_TOLD u_CREATE u_ADD_STONE_LENGTH u_REMOVE_STONE_LENGTH u_SET_LENGTH u_ROW_COUNT u_ROW u_JOINTS u_COMPATIBLE_COUNT u_ARE_COMPATIBLE u_WALL_COUNT u_FIRST_WALL u_IS_POSSIBLE_LENGTH u_IMPOSSIBLE_LENGTHS u_MIN_STONES u_LONELIEST_ROW u_CHECK_WALL u_SHAPES_0_0 u_SHAPES_0_1 u_SHAPES_1_0 u_SHAPES_1_1 u_SHAPES_2_0 u_SHAPES_2_1 u_SHAPES_3_0 u_SHAPES_3_1 u_SHAPES_4_0 u_SHAPES_4_1 u_SHAPES_5_0 u_SHAPES_5_1 u_SHAPES_6_0 u_SHAPES_6_1 u_SHAPES_7_0 u_SHAPES_7_1 u_SHAPES_8_0 u_SHAPES_8_1 u_SHAPES_9_0 u_SHAPES_9_1 u_SHAPES_10_0 u_SHAPES_10_1 u_SHAPES_11_0 u_SHAPES_11_1 u_SHAPES_12_0 u_SHAPES_12_1 u_SHAPES_13_0 u_SHAPES_13_1 u_SHAPES_14_0 u_SHAPES_14_1 u_SHAPES_15_0 u_SHAPES_15_1 u_SHAPES_16_0 u_SHAPES_16_1 : Tok}
    (ac_Reader : PySem.W.nsIn K mainGlobals "Reader" = some (some (.ref C_Reader)))
    (ac_Masonry : PySem.W.nsIn K mainGlobals "Masonry" = some (some (.ref C_Masonry)))
    (a0 : PySem.W.nsIn K mainGlobals "rows_of" = some (some (.ref f0)))
    (l0 : K.lookup f0 = some ⟨oc0, od0, .func (PySem.W.fnOf "rows_of" "rows_of" (defArgs s_rows_of) (defBody s_rows_of) (defScope s_rows_of) .none kV0 dc0 pm0 an0 cd0 ct0), sl0⟩)
    (d0 : PySem.W.codeIn K cd0 "rows_of" = true)
    (k0 : PySem.W.keepIn K (.ref f0) = true)
    (a1 : PySem.W.nsIn K mainGlobals "rows_of_total" = some (some (.ref f1)))
    (l1 : K.lookup f1 = some ⟨oc1, od1, .func (PySem.W.fnOf "rows_of_total" "rows_of_total" (defArgs s_rows_of_total) (defBody s_rows_of_total) (defScope s_rows_of_total) .none kV1 dc1 pm1 an1 cd1 ct1), sl1⟩)
    (d1 : PySem.W.codeIn K cd1 "rows_of_total" = true)
    (k1 : PySem.W.keepIn K (.ref f1) = true)
    (a2 : PySem.W.nsIn K mainGlobals "is_row" = some (some (.ref f2)))
    (l2 : K.lookup f2 = some ⟨oc2, od2, .func (PySem.W.fnOf "is_row" "is_row" (defArgs s_is_row) (defBody s_is_row) (defScope s_is_row) .none kV2 dc2 pm2 an2 cd2 ct2), sl2⟩)
    (d2 : PySem.W.codeIn K cd2 "is_row" = true)
    (k2 : PySem.W.keepIn K (.ref f2) = true)
    (a3 : PySem.W.nsIn K mainGlobals "joints_of" = some (some (.ref f3)))
    (l3 : K.lookup f3 = some ⟨oc3, od3, .func (PySem.W.fnOf "joints_of" "joints_of" (defArgs s_joints_of) (defBody s_joints_of) (defScope s_joints_of) .none kV3 dc3 pm3 an3 cd3 ct3), sl3⟩)
    (d3 : PySem.W.codeIn K cd3 "joints_of" = true)
    (k3 : PySem.W.keepIn K (.ref f3) = true)
    (a4 : PySem.W.nsIn K mainGlobals "joint_bits" = some (some (.ref f4)))
    (l4 : K.lookup f4 = some ⟨oc4, od4, .func (PySem.W.fnOf "joint_bits" "joint_bits" (defArgs s_joint_bits) (defBody s_joint_bits) (defScope s_joint_bits) .none kV4 dc4 pm4 an4 cd4 ct4), sl4⟩)
    (d4 : PySem.W.codeIn K cd4 "joint_bits" = true)
    (k4 : PySem.W.keepIn K (.ref f4) = true)
    (a5 : PySem.W.nsIn K mainGlobals "is_compatible" = some (some (.ref f5)))
    (l5 : K.lookup f5 = some ⟨oc5, od5, .func (PySem.W.fnOf "is_compatible" "is_compatible" (defArgs s_is_compatible) (defBody s_is_compatible) (defScope s_is_compatible) .none kV5 dc5 pm5 an5 cd5 ct5), sl5⟩)
    (d5 : PySem.W.codeIn K cd5 "is_compatible" = true)
    (k5 : PySem.W.keepIn K (.ref f5) = true)
    (a6 : PySem.W.nsIn K mainGlobals "compatible_rows" = some (some (.ref f6)))
    (l6 : K.lookup f6 = some ⟨oc6, od6, .func (PySem.W.fnOf "compatible_rows" "compatible_rows" (defArgs s_compatible_rows) (defBody s_compatible_rows) (defScope s_compatible_rows) .none kV6 dc6 pm6 an6 cd6 ct6), sl6⟩)
    (d6 : PySem.W.codeIn K cd6 "compatible_rows" = true)
    (k6 : PySem.W.keepIn K (.ref f6) = true)
    (a7 : PySem.W.nsIn K mainGlobals "fewest_stones" = some (some (.ref f7)))
    (l7 : K.lookup f7 = some ⟨oc7, od7, .func (PySem.W.fnOf "fewest_stones" "fewest_stones" (defArgs s_fewest_stones) (defBody s_fewest_stones) (defScope s_fewest_stones) .none kV7 dc7 pm7 an7 cd7 ct7), sl7⟩)
    (d7 : PySem.W.codeIn K cd7 "fewest_stones" = true)
    (k7 : PySem.W.keepIn K (.ref f7) = true)
    (a8 : PySem.W.nsIn K mainGlobals "count_walls" = some (some (.ref f8)))
    (l8 : K.lookup f8 = some ⟨oc8, od8, .func (PySem.W.fnOf "count_walls" "count_walls" (defArgs s_count_walls) (defBody s_count_walls) (defScope s_count_walls) .none kV8 dc8 pm8 an8 cd8 ct8), sl8⟩)
    (d8 : PySem.W.codeIn K cd8 "count_walls" = true)
    (k8 : PySem.W.keepIn K (.ref f8) = true)
    (a9 : PySem.W.nsIn K mainGlobals "one_row_higher" = some (some (.ref f9)))
    (l9 : K.lookup f9 = some ⟨oc9, od9, .func (PySem.W.fnOf "one_row_higher" "one_row_higher" (defArgs s_one_row_higher) (defBody s_one_row_higher) (defScope s_one_row_higher) .none kV9 dc9 pm9 an9 cd9 ct9), sl9⟩)
    (d9 : PySem.W.codeIn K cd9 "one_row_higher" = true)
    (k9 : PySem.W.keepIn K (.ref f9) = true)
    (a10 : PySem.W.nsIn K mainGlobals "find_first_wall" = some (some (.ref f10)))
    (l10 : K.lookup f10 = some ⟨oc10, od10, .func (PySem.W.fnOf "find_first_wall" "find_first_wall" (defArgs s_find_first_wall) (defBody s_find_first_wall) (defScope s_find_first_wall) .none kV10 dc10 pm10 an10 cd10 ct10), sl10⟩)
    (d10 : PySem.W.codeIn K cd10 "find_first_wall" = true)
    (k10 : PySem.W.keepIn K (.ref f10) = true)
    (a11 : PySem.W.nsIn K mainGlobals "wall_upon" = some (some (.ref f11)))
    (l11 : K.lookup f11 = some ⟨oc11, od11, .func (PySem.W.fnOf "wall_upon" "wall_upon" (defArgs s_wall_upon) (defBody s_wall_upon) (defScope s_wall_upon) .none kV11 dc11 pm11 an11 cd11 ct11), sl11⟩)
    (d11 : PySem.W.codeIn K cd11 "wall_upon" = true)
    (k11 : PySem.W.keepIn K (.ref f11) = true)
    (a12 : PySem.W.nsIn K mainGlobals "find_loneliest" = some (some (.ref f12)))
    (l12 : K.lookup f12 = some ⟨oc12, od12, .func (PySem.W.fnOf "find_loneliest" "find_loneliest" (defArgs s_find_loneliest) (defBody s_find_loneliest) (defScope s_find_loneliest) .none kV12 dc12 pm12 an12 cd12 ct12), sl12⟩)
    (d12 : PySem.W.codeIn K cd12 "find_loneliest" = true)
    (k12 : PySem.W.keepIn K (.ref f12) = true)
    (a13 : PySem.W.nsIn K mainGlobals "is_wall" = some (some (.ref f13)))
    (l13 : K.lookup f13 = some ⟨oc13, od13, .func (PySem.W.fnOf "is_wall" "is_wall" (defArgs s_is_wall) (defBody s_is_wall) (defScope s_is_wall) .none kV13 dc13 pm13 an13 cd13 ct13), sl13⟩)
    (d13 : PySem.W.codeIn K cd13 "is_wall" = true)
    (k13 : PySem.W.keepIn K (.ref f13) = true)
    (a14 : PySem.W.nsIn K mainGlobals "answers" = some (some (.ref f14)))
    (l14 : K.lookup f14 = some ⟨oc14, od14, .func (PySem.W.fnOf "answers" "answers" (defArgs s_answers) (defBody s_answers) (defScope s_answers) .none kV14 dc14 pm14 an14 cd14 ct14), sl14⟩)
    (d14 : PySem.W.codeIn K cd14 "answers" = true)
    (k14 : PySem.W.keepIn K (.ref f14) = true)
    (a15 : PySem.W.nsIn K mainGlobals "answer_of" = some (some (.ref f15)))
    (l15 : K.lookup f15 = some ⟨oc15, od15, .func (PySem.W.fnOf "answer_of" "answer_of" (defArgs s_answer_of) (defBody s_answer_of) (defScope s_answer_of) .none kV15 dc15 pm15 an15 cd15 ct15), sl15⟩)
    (d15 : PySem.W.codeIn K cd15 "answer_of" = true)
    (k15 : PySem.W.keepIn K (.ref f15) = true)
    (a16 : PySem.W.nsIn K mainGlobals "is_length" = some (some (.ref f16)))
    (l16 : K.lookup f16 = some ⟨oc16, od16, .func (PySem.W.fnOf "is_length" "is_length" (defArgs s_is_length) (defBody s_is_length) (defScope s_is_length) .none kV16 dc16 pm16 an16 cd16 ct16), sl16⟩)
    (d16 : PySem.W.codeIn K cd16 "is_length" = true)
    (k16 : PySem.W.keepIn K (.ref f16) = true)
    (a17 : PySem.W.nsIn K mainGlobals "is_total" = some (some (.ref f17)))
    (l17 : K.lookup f17 = some ⟨oc17, od17, .func (PySem.W.fnOf "is_total" "is_total" (defArgs s_is_total) (defBody s_is_total) (defScope s_is_total) .none kV17 dc17 pm17 an17 cd17 ct17), sl17⟩)
    (d17 : PySem.W.codeIn K cd17 "is_total" = true)
    (k17 : PySem.W.keepIn K (.ref f17) = true)
    (a18 : PySem.W.nsIn K mainGlobals "yes_or_no" = some (some (.ref f18)))
    (l18 : K.lookup f18 = some ⟨oc18, od18, .func (PySem.W.fnOf "yes_or_no" "yes_or_no" (defArgs s_yes_or_no) (defBody s_yes_or_no) (defScope s_yes_or_no) .none kV18 dc18 pm18 an18 cd18 ct18), sl18⟩)
    (d18 : PySem.W.codeIn K cd18 "yes_or_no" = true)
    (k18 : PySem.W.keepIn K (.ref f18) = true)
    (a19 : PySem.W.nsIn K mainGlobals "counted" = some (some (.ref f19)))
    (l19 : K.lookup f19 = some ⟨oc19, od19, .func (PySem.W.fnOf "counted" "counted" (defArgs s_counted) (defBody s_counted) (defScope s_counted) .none kV19 dc19 pm19 an19 cd19 ct19), sl19⟩)
    (d19 : PySem.W.codeIn K cd19 "counted" = true)
    (k19 : PySem.W.keepIn K (.ref f19) = true)
    (a20 : PySem.W.findIn K (.ref C_Reader) "__init__" = some (some (.ref f20)))
    (i20 : PySem.W.isFn K (.ref f20) = true)
    (l20 : K.lookup f20 = some ⟨oc20, od20, .func (PySem.W.fnOf "__init__" "Reader.__init__" (defArgs s_Reader_init) (defBody s_Reader_init) (defScope s_Reader_init) .none kV20 dc20 pm20 an20 cd20 ct20), sl20⟩)
    (d20 : PySem.W.codeIn K cd20 "Reader.__init__" = true)
    (k20 : PySem.W.keepIn K (.ref f20) = true)
    (a21 : PySem.W.findIn K (.ref C_Reader) "has_more" = some (some (.ref f21)))
    (i21 : PySem.W.isFn K (.ref f21) = true)
    (l21 : K.lookup f21 = some ⟨oc21, od21, .func (PySem.W.fnOf "has_more" "Reader.has_more" (defArgs s_Reader_has_more) (defBody s_Reader_has_more) (defScope s_Reader_has_more) .none kV21 dc21 pm21 an21 cd21 ct21), sl21⟩)
    (d21 : PySem.W.codeIn K cd21 "Reader.has_more" = true)
    (k21 : PySem.W.keepIn K (.ref f21) = true)
    (a22 : PySem.W.findIn K (.ref C_Reader) "number" = some (some (.ref f22)))
    (i22 : PySem.W.isFn K (.ref f22) = true)
    (l22 : K.lookup f22 = some ⟨oc22, od22, .func (PySem.W.fnOf "number" "Reader.number" (defArgs s_Reader_number) (defBody s_Reader_number) (defScope s_Reader_number) .none kV22 dc22 pm22 an22 cd22 ct22), sl22⟩)
    (d22 : PySem.W.codeIn K cd22 "Reader.number" = true)
    (k22 : PySem.W.keepIn K (.ref f22) = true)
    (a23 : PySem.W.findIn K (.ref C_Reader) "number_list" = some (some (.ref f23)))
    (i23 : PySem.W.isFn K (.ref f23) = true)
    (l23 : K.lookup f23 = some ⟨oc23, od23, .func (PySem.W.fnOf "number_list" "Reader.number_list" (defArgs s_Reader_number_list) (defBody s_Reader_number_list) (defScope s_Reader_number_list) .none kV23 dc23 pm23 an23 cd23 ct23), sl23⟩)
    (d23 : PySem.W.codeIn K cd23 "Reader.number_list" = true)
    (k23 : PySem.W.keepIn K (.ref f23) = true)
    (a24 : PySem.W.findIn K (.ref C_Reader) "parts" = some (some (.ref f24)))
    (i24 : PySem.W.isFn K (.ref f24) = true)
    (l24 : K.lookup f24 = some ⟨oc24, od24, .func (PySem.W.fnOf "parts" "Reader.parts" (defArgs s_Reader_parts) (defBody s_Reader_parts) (defScope s_Reader_parts) .none kV24 dc24 pm24 an24 cd24 ct24), sl24⟩)
    (d24 : PySem.W.codeIn K cd24 "Reader.parts" = true)
    (k24 : PySem.W.keepIn K (.ref f24) = true)
    (a25 : PySem.W.findIn K (.ref C_Masonry) "__init__" = some (some (.ref f25)))
    (i25 : PySem.W.isFn K (.ref f25) = true)
    (l25 : K.lookup f25 = some ⟨oc25, od25, .func (PySem.W.fnOf "__init__" "Masonry.__init__" (defArgs s_Masonry_init) (defBody s_Masonry_init) (defScope s_Masonry_init) .none kV25 dc25 pm25 an25 cd25 ct25), sl25⟩)
    (d25 : PySem.W.codeIn K cd25 "Masonry.__init__" = true)
    (k25 : PySem.W.keepIn K (.ref f25) = true)
    (a26 : PySem.W.findIn K (.ref C_Masonry) "rows" = some (some (.ref f26)))
    (i26 : PySem.W.isFn K (.ref f26) = true)
    (l26 : K.lookup f26 = some ⟨oc26, od26, .func (PySem.W.fnOf "rows" "Masonry.rows" (defArgs s_Masonry_rows) (defBody s_Masonry_rows) (defScope s_Masonry_rows) .none kV26 dc26 pm26 an26 cd26 ct26), sl26⟩)
    (d26 : PySem.W.codeIn K cd26 "Masonry.rows" = true)
    (k26 : PySem.W.keepIn K (.ref f26) = true)
    (a27 : PySem.W.findIn K (.ref C_Masonry) "add_stone_length" = some (some (.ref f27)))
    (i27 : PySem.W.isFn K (.ref f27) = true)
    (l27 : K.lookup f27 = some ⟨oc27, od27, .func (PySem.W.fnOf "add_stone_length" "Masonry.add_stone_length" (defArgs s_Masonry_add_stone_length) (defBody s_Masonry_add_stone_length) (defScope s_Masonry_add_stone_length) .none kV27 dc27 pm27 an27 cd27 ct27), sl27⟩)
    (d27 : PySem.W.codeIn K cd27 "Masonry.add_stone_length" = true)
    (k27 : PySem.W.keepIn K (.ref f27) = true)
    (a28 : PySem.W.findIn K (.ref C_Masonry) "remove_stone_length" = some (some (.ref f28)))
    (i28 : PySem.W.isFn K (.ref f28) = true)
    (l28 : K.lookup f28 = some ⟨oc28, od28, .func (PySem.W.fnOf "remove_stone_length" "Masonry.remove_stone_length" (defArgs s_Masonry_remove_stone_length) (defBody s_Masonry_remove_stone_length) (defScope s_Masonry_remove_stone_length) .none kV28 dc28 pm28 an28 cd28 ct28), sl28⟩)
    (d28 : PySem.W.codeIn K cd28 "Masonry.remove_stone_length" = true)
    (k28 : PySem.W.keepIn K (.ref f28) = true)
    (a29 : PySem.W.findIn K (.ref C_Masonry) "set_length" = some (some (.ref f29)))
    (i29 : PySem.W.isFn K (.ref f29) = true)
    (l29 : K.lookup f29 = some ⟨oc29, od29, .func (PySem.W.fnOf "set_length" "Masonry.set_length" (defArgs s_Masonry_set_length) (defBody s_Masonry_set_length) (defScope s_Masonry_set_length) .none kV29 dc29 pm29 an29 cd29 ct29), sl29⟩)
    (d29 : PySem.W.codeIn K cd29 "Masonry.set_length" = true)
    (k29 : PySem.W.keepIn K (.ref f29) = true)
    (a30 : PySem.W.findIn K (.ref C_Masonry) "row_count" = some (some (.ref f30)))
    (i30 : PySem.W.isFn K (.ref f30) = true)
    (l30 : K.lookup f30 = some ⟨oc30, od30, .func (PySem.W.fnOf "row_count" "Masonry.row_count" (defArgs s_Masonry_row_count) (defBody s_Masonry_row_count) (defScope s_Masonry_row_count) .none kV30 dc30 pm30 an30 cd30 ct30), sl30⟩)
    (d30 : PySem.W.codeIn K cd30 "Masonry.row_count" = true)
    (k30 : PySem.W.keepIn K (.ref f30) = true)
    (a31 : PySem.W.findIn K (.ref C_Masonry) "row" = some (some (.ref f31)))
    (i31 : PySem.W.isFn K (.ref f31) = true)
    (l31 : K.lookup f31 = some ⟨oc31, od31, .func (PySem.W.fnOf "row" "Masonry.row" (defArgs s_Masonry_row) (defBody s_Masonry_row) (defScope s_Masonry_row) .none kV31 dc31 pm31 an31 cd31 ct31), sl31⟩)
    (d31 : PySem.W.codeIn K cd31 "Masonry.row" = true)
    (k31 : PySem.W.keepIn K (.ref f31) = true)
    (a32 : PySem.W.findIn K (.ref C_Masonry) "joints" = some (some (.ref f32)))
    (i32 : PySem.W.isFn K (.ref f32) = true)
    (l32 : K.lookup f32 = some ⟨oc32, od32, .func (PySem.W.fnOf "joints" "Masonry.joints" (defArgs s_Masonry_joints) (defBody s_Masonry_joints) (defScope s_Masonry_joints) .none kV32 dc32 pm32 an32 cd32 ct32), sl32⟩)
    (d32 : PySem.W.codeIn K cd32 "Masonry.joints" = true)
    (k32 : PySem.W.keepIn K (.ref f32) = true)
    (a33 : PySem.W.findIn K (.ref C_Masonry) "compatible_count" = some (some (.ref f33)))
    (i33 : PySem.W.isFn K (.ref f33) = true)
    (l33 : K.lookup f33 = some ⟨oc33, od33, .func (PySem.W.fnOf "compatible_count" "Masonry.compatible_count" (defArgs s_Masonry_compatible_count) (defBody s_Masonry_compatible_count) (defScope s_Masonry_compatible_count) .none kV33 dc33 pm33 an33 cd33 ct33), sl33⟩)
    (d33 : PySem.W.codeIn K cd33 "Masonry.compatible_count" = true)
    (k33 : PySem.W.keepIn K (.ref f33) = true)
    (a34 : PySem.W.findIn K (.ref C_Masonry) "are_compatible" = some (some (.ref f34)))
    (i34 : PySem.W.isFn K (.ref f34) = true)
    (l34 : K.lookup f34 = some ⟨oc34, od34, .func (PySem.W.fnOf "are_compatible" "Masonry.are_compatible" (defArgs s_Masonry_are_compatible) (defBody s_Masonry_are_compatible) (defScope s_Masonry_are_compatible) .none kV34 dc34 pm34 an34 cd34 ct34), sl34⟩)
    (d34 : PySem.W.codeIn K cd34 "Masonry.are_compatible" = true)
    (k34 : PySem.W.keepIn K (.ref f34) = true)
    (a35 : PySem.W.findIn K (.ref C_Masonry) "wall_count" = some (some (.ref f35)))
    (i35 : PySem.W.isFn K (.ref f35) = true)
    (l35 : K.lookup f35 = some ⟨oc35, od35, .func (PySem.W.fnOf "wall_count" "Masonry.wall_count" (defArgs s_Masonry_wall_count) (defBody s_Masonry_wall_count) (defScope s_Masonry_wall_count) .none kV35 dc35 pm35 an35 cd35 ct35), sl35⟩)
    (d35 : PySem.W.codeIn K cd35 "Masonry.wall_count" = true)
    (k35 : PySem.W.keepIn K (.ref f35) = true)
    (a36 : PySem.W.findIn K (.ref C_Masonry) "first_wall" = some (some (.ref f36)))
    (i36 : PySem.W.isFn K (.ref f36) = true)
    (l36 : K.lookup f36 = some ⟨oc36, od36, .func (PySem.W.fnOf "first_wall" "Masonry.first_wall" (defArgs s_Masonry_first_wall) (defBody s_Masonry_first_wall) (defScope s_Masonry_first_wall) .none kV36 dc36 pm36 an36 cd36 ct36), sl36⟩)
    (d36 : PySem.W.codeIn K cd36 "Masonry.first_wall" = true)
    (k36 : PySem.W.keepIn K (.ref f36) = true)
    (a37 : PySem.W.findIn K (.ref C_Masonry) "is_possible_length" = some (some (.ref f37)))
    (i37 : PySem.W.isFn K (.ref f37) = true)
    (l37 : K.lookup f37 = some ⟨oc37, od37, .func (PySem.W.fnOf "is_possible_length" "Masonry.is_possible_length" (defArgs s_Masonry_is_possible_length) (defBody s_Masonry_is_possible_length) (defScope s_Masonry_is_possible_length) .none kV37 dc37 pm37 an37 cd37 ct37), sl37⟩)
    (d37 : PySem.W.codeIn K cd37 "Masonry.is_possible_length" = true)
    (k37 : PySem.W.keepIn K (.ref f37) = true)
    (a38 : PySem.W.findIn K (.ref C_Masonry) "impossible_lengths" = some (some (.ref f38)))
    (i38 : PySem.W.isFn K (.ref f38) = true)
    (l38 : K.lookup f38 = some ⟨oc38, od38, .func (PySem.W.fnOf "impossible_lengths" "Masonry.impossible_lengths" (defArgs s_Masonry_impossible_lengths) (defBody s_Masonry_impossible_lengths) (defScope s_Masonry_impossible_lengths) .none kV38 dc38 pm38 an38 cd38 ct38), sl38⟩)
    (d38 : PySem.W.codeIn K cd38 "Masonry.impossible_lengths" = true)
    (k38 : PySem.W.keepIn K (.ref f38) = true)
    (a39 : PySem.W.findIn K (.ref C_Masonry) "min_stones" = some (some (.ref f39)))
    (i39 : PySem.W.isFn K (.ref f39) = true)
    (l39 : K.lookup f39 = some ⟨oc39, od39, .func (PySem.W.fnOf "min_stones" "Masonry.min_stones" (defArgs s_Masonry_min_stones) (defBody s_Masonry_min_stones) (defScope s_Masonry_min_stones) .none kV39 dc39 pm39 an39 cd39 ct39), sl39⟩)
    (d39 : PySem.W.codeIn K cd39 "Masonry.min_stones" = true)
    (k39 : PySem.W.keepIn K (.ref f39) = true)
    (a40 : PySem.W.findIn K (.ref C_Masonry) "loneliest_row" = some (some (.ref f40)))
    (i40 : PySem.W.isFn K (.ref f40) = true)
    (l40 : K.lookup f40 = some ⟨oc40, od40, .func (PySem.W.fnOf "loneliest_row" "Masonry.loneliest_row" (defArgs s_Masonry_loneliest_row) (defBody s_Masonry_loneliest_row) (defScope s_Masonry_loneliest_row) .none kV40 dc40 pm40 an40 cd40 ct40), sl40⟩)
    (d40 : PySem.W.codeIn K cd40 "Masonry.loneliest_row" = true)
    (k40 : PySem.W.keepIn K (.ref f40) = true)
    (a41 : PySem.W.findIn K (.ref C_Masonry) "check_wall" = some (some (.ref f41)))
    (i41 : PySem.W.isFn K (.ref f41) = true)
    (l41 : K.lookup f41 = some ⟨oc41, od41, .func (PySem.W.fnOf "check_wall" "Masonry.check_wall" (defArgs s_Masonry_check_wall) (defBody s_Masonry_check_wall) (defScope s_Masonry_check_wall) .none kV41 dc41 pm41 an41 cd41 ct41), sl41⟩)
    (d41 : PySem.W.codeIn K cd41 "Masonry.check_wall" = true)
    (k41 : PySem.W.keepIn K (.ref f41) = true)
    (a42 : PySem.W.findIn K (.ref C_Masonry) "describe" = some (some (.ref f42)))
    (i42 : PySem.W.isFn K (.ref f42) = true)
    (l42 : K.lookup f42 = some ⟨oc42, od42, .func (PySem.W.fnOf "describe" "Masonry.describe" (defArgs s_Masonry_describe) (defBody s_Masonry_describe) (defScope s_Masonry_describe) .none kV42 dc42 pm42 an42 cd42 ct42), sl42⟩)
    (d42 : PySem.W.codeIn K cd42 "Masonry.describe" = true)
    (k42 : PySem.W.keepIn K (.ref f42) = true)
    (pg_Reader : PySem.W.plainGet K C_Reader Str.empty = true)
    (hd_Reader : PySem.W.hasDictIn K C_Reader = true)
    (po_Reader : PySem.W.plainOver K C_Reader = true)
    (sa_Reader : PySem.W.findIn K (.ref C_Reader) "__setattr__" = some (some (.builtin "object.__setattr__")))
    (mk_Reader : PySem.W.makesIn K C_Reader = true)
    (kc_Reader : PySem.W.keepIn K (.ref C_Reader) = true)
    (n_Reader_calls : PySem.W.findIn K (.ref C_Reader) "calls" = some none)
    (n_Reader_place : PySem.W.findIn K (.ref C_Reader) "place" = some none)
    (pg_Masonry : PySem.W.plainGet K C_Masonry Str.empty = true)
    (hd_Masonry : PySem.W.hasDictIn K C_Masonry = true)
    (po_Masonry : PySem.W.plainOver K C_Masonry = true)
    (sa_Masonry : PySem.W.findIn K (.ref C_Masonry) "__setattr__" = some (some (.builtin "object.__setattr__")))
    (mk_Masonry : PySem.W.makesIn K C_Masonry = true)
    (kc_Masonry : PySem.W.keepIn K (.ref C_Masonry) = true)
    (n_Masonry_length : PySem.W.findIn K (.ref C_Masonry) "length" = some none)
    (n_Masonry_stone_lengths : PySem.W.findIn K (.ref C_Masonry) "stone_lengths" = some none)
    (c_GREATEST_TOTAL : PySem.W.nsIn K mainGlobals "GREATEST_TOTAL" = some (some (.int (60) u_GREATEST_TOTAL)))
    (c_NO_INSTANCE : PySem.W.nsIn K mainGlobals "NO_INSTANCE" = some (some (.int (-11) u_NO_INSTANCE)))
    (c_NOT_THERE : PySem.W.nsIn K mainGlobals "NOT_THERE" = some (some (.int (-2) u_NOT_THERE)))
    (c_ALREADY_THERE : PySem.W.nsIn K mainGlobals "ALREADY_THERE" = some (some (.int (-17) u_ALREADY_THERE)))
    (c_OUT_OF_RANGE : PySem.W.nsIn K mainGlobals "OUT_OF_RANGE" = some (some (.int (-22) u_OUT_OF_RANGE)))
    (c_TOO_MANY : PySem.W.nsIn K mainGlobals "TOO_MANY" = some (some (.int (-28) u_TOO_MANY)))
    (c_NONE_SUCH : PySem.W.nsIn K mainGlobals "NONE_SUCH" = some (some (.int (-33) u_NONE_SUCH)))
    (c_GREATEST_LENGTH : PySem.W.nsIn K mainGlobals "GREATEST_LENGTH" = some (some (.int (9) u_GREATEST_LENGTH)))
    (c_MOST_STONE_LENGTHS : PySem.W.nsIn K mainGlobals "MOST_STONE_LENGTHS" = some (some (.int (4) u_MOST_STONE_LENGTHS)))
    (c_GREATEST_HEIGHT : PySem.W.nsIn K mainGlobals "GREATEST_HEIGHT" = some (some (.int (8) u_GREATEST_HEIGHT)))
    (c_MOST_LENGTHS_TOLD : PySem.W.nsIn K mainGlobals "MOST_LENGTHS_TOLD" = some (some (.int (20) u_MOST_LENGTHS_TOLD)))
    (c_CREATE : PySem.W.nsIn K mainGlobals "CREATE" = some (some (.int (0) u_CREATE)))
    (c_ADD_STONE_LENGTH : PySem.W.nsIn K mainGlobals "ADD_STONE_LENGTH" = some (some (.int (1) u_ADD_STONE_LENGTH)))
    (c_REMOVE_STONE_LENGTH : PySem.W.nsIn K mainGlobals "REMOVE_STONE_LENGTH" = some (some (.int (2) u_REMOVE_STONE_LENGTH)))
    (c_SET_LENGTH : PySem.W.nsIn K mainGlobals "SET_LENGTH" = some (some (.int (3) u_SET_LENGTH)))
    (c_ROW_COUNT : PySem.W.nsIn K mainGlobals "ROW_COUNT" = some (some (.int (4) u_ROW_COUNT)))
    (c_ROW : PySem.W.nsIn K mainGlobals "ROW" = some (some (.int (5) u_ROW)))
    (c_JOINTS : PySem.W.nsIn K mainGlobals "JOINTS" = some (some (.int (6) u_JOINTS)))
    (c_COMPATIBLE_COUNT : PySem.W.nsIn K mainGlobals "COMPATIBLE_COUNT" = some (some (.int (7) u_COMPATIBLE_COUNT)))
    (c_ARE_COMPATIBLE : PySem.W.nsIn K mainGlobals "ARE_COMPATIBLE" = some (some (.int (8) u_ARE_COMPATIBLE)))
    (c_WALL_COUNT : PySem.W.nsIn K mainGlobals "WALL_COUNT" = some (some (.int (9) u_WALL_COUNT)))
    (c_FIRST_WALL : PySem.W.nsIn K mainGlobals "FIRST_WALL" = some (some (.int (10) u_FIRST_WALL)))
    (c_IS_POSSIBLE_LENGTH : PySem.W.nsIn K mainGlobals "IS_POSSIBLE_LENGTH" = some (some (.int (11) u_IS_POSSIBLE_LENGTH)))
    (c_IMPOSSIBLE_LENGTHS : PySem.W.nsIn K mainGlobals "IMPOSSIBLE_LENGTHS" = some (some (.int (12) u_IMPOSSIBLE_LENGTHS)))
    (c_MIN_STONES : PySem.W.nsIn K mainGlobals "MIN_STONES" = some (some (.int (13) u_MIN_STONES)))
    (c_LONELIEST_ROW : PySem.W.nsIn K mainGlobals "LONELIEST_ROW" = some (some (.int (14) u_LONELIEST_ROW)))
    (c_CHECK_WALL : PySem.W.nsIn K mainGlobals "CHECK_WALL" = some (some (.int (15) u_CHECK_WALL)))
    (c_SHAPES : PySem.W.nsIn K mainGlobals "SHAPES" = some (some (.ref T_SHAPES)))
    (t_SHAPES : K.lookup T_SHAPES = some { cls := .type "tuple", data := .seq #[.ref T_SHAPES_0, .ref T_SHAPES_1, .ref T_SHAPES_2, .ref T_SHAPES_3, .ref T_SHAPES_4, .ref T_SHAPES_5, .ref T_SHAPES_6, .ref T_SHAPES_7, .ref T_SHAPES_8, .ref T_SHAPES_9, .ref T_SHAPES_10, .ref T_SHAPES_11, .ref T_SHAPES_12, .ref T_SHAPES_13, .ref T_SHAPES_14, .ref T_SHAPES_15, .ref T_SHAPES_16] })
    (t_SHAPES_0 : K.lookup T_SHAPES_0 = some { cls := .type "tuple", data := .seq #[.int 1 u_SHAPES_0_0, .int 0 u_SHAPES_0_1] })
    (t_SHAPES_1 : K.lookup T_SHAPES_1 = some { cls := .type "tuple", data := .seq #[.int 1 u_SHAPES_1_0, .int 0 u_SHAPES_1_1] })
    (t_SHAPES_2 : K.lookup T_SHAPES_2 = some { cls := .type "tuple", data := .seq #[.int 1 u_SHAPES_2_0, .int 0 u_SHAPES_2_1] })
    (t_SHAPES_3 : K.lookup T_SHAPES_3 = some { cls := .type "tuple", data := .seq #[.int 1 u_SHAPES_3_0, .int 0 u_SHAPES_3_1] })
    (t_SHAPES_4 : K.lookup T_SHAPES_4 = some { cls := .type "tuple", data := .seq #[.int 0 u_SHAPES_4_0, .int 0 u_SHAPES_4_1] })
    (t_SHAPES_5 : K.lookup T_SHAPES_5 = some { cls := .type "tuple", data := .seq #[.int 1 u_SHAPES_5_0, .int 0 u_SHAPES_5_1] })
    (t_SHAPES_6 : K.lookup T_SHAPES_6 = some { cls := .type "tuple", data := .seq #[.int 1 u_SHAPES_6_0, .int 0 u_SHAPES_6_1] })
    (t_SHAPES_7 : K.lookup T_SHAPES_7 = some { cls := .type "tuple", data := .seq #[.int 1 u_SHAPES_7_0, .int 0 u_SHAPES_7_1] })
    (t_SHAPES_8 : K.lookup T_SHAPES_8 = some { cls := .type "tuple", data := .seq #[.int 0 u_SHAPES_8_0, .int 2 u_SHAPES_8_1] })
    (t_SHAPES_9 : K.lookup T_SHAPES_9 = some { cls := .type "tuple", data := .seq #[.int 1 u_SHAPES_9_0, .int 0 u_SHAPES_9_1] })
    (t_SHAPES_10 : K.lookup T_SHAPES_10 = some { cls := .type "tuple", data := .seq #[.int 1 u_SHAPES_10_0, .int 0 u_SHAPES_10_1] })
    (t_SHAPES_11 : K.lookup T_SHAPES_11 = some { cls := .type "tuple", data := .seq #[.int 1 u_SHAPES_11_0, .int 0 u_SHAPES_11_1] })
    (t_SHAPES_12 : K.lookup T_SHAPES_12 = some { cls := .type "tuple", data := .seq #[.int 0 u_SHAPES_12_0, .int 0 u_SHAPES_12_1] })
    (t_SHAPES_13 : K.lookup T_SHAPES_13 = some { cls := .type "tuple", data := .seq #[.int 1 u_SHAPES_13_0, .int 0 u_SHAPES_13_1] })
    (t_SHAPES_14 : K.lookup T_SHAPES_14 = some { cls := .type "tuple", data := .seq #[.int 0 u_SHAPES_14_0, .int 0 u_SHAPES_14_1] })
    (t_SHAPES_15 : K.lookup T_SHAPES_15 = some { cls := .type "tuple", data := .seq #[.int 0 u_SHAPES_15_0, .int 1 u_SHAPES_15_1] })
    (t_SHAPES_16 : K.lookup T_SHAPES_16 = some { cls := .type "tuple", data := .seq #[.int 0 u_SHAPES_16_0, .int 0 u_SHAPES_16_1] })
    (b_len : PySem.W.nsIn K mainGlobals "len" = some none)
    (b_list : PySem.W.nsIn K mainGlobals "list" = some none)
    (b_min : PySem.W.nsIn K mainGlobals "min" = some none)
    (b_range : PySem.W.nsIn K mainGlobals "range" = some none)
    (b_sorted : PySem.W.nsIn K mainGlobals "sorted" = some none)
    (b_sum : PySem.W.nsIn K mainGlobals "sum" = some none)
    : ∃ fd : FuncData, (∀ (s : Shared) (us : List Value), us.length = (["calls"] : List Str).length → BindsTo s fd ⟨us, []⟩ ((["calls"] : List Str).zip us)) ∧ ∀ base : Heap, K.In base → base.Ns mainGlobals mg → FnOk P w K mg base CX0 6 fa fd ["calls"] (sp_answers K) := by
  have e := hfa.symm.trans (PySem.W.mg_of X G a14)
  cases e
  have T := txt_mk X G ac_Reader ac_Masonry a0 l0 d0 k0 a1 l1 d1 k1 a2 l2 d2 k2 a3 l3 d3 k3 a4 l4 d4 k4 a5 l5 d5 k5 a6 l6 d6 k6 a7 l7 d7 k7 a8 l8 d8 k8 a9 l9 d9 k9 a10 l10 d10 k10 a11 l11 d11 k11 a12 l12 d12 k12 a13 l13 d13 k13 a14 l14 d14 k14 a15 l15 d15 k15 a16 l16 d16 k16 a17 l17 d17 k17 a18 l18 d18 k18 a19 l19 d19 k19 a20 i20 l20 d20 k20 a21 i21 l21 d21 k21 a22 i22 l22 d22 k22 a23 i23 l23 d23 k23 a24 i24 l24 d24 k24 a25 i25 l25 d25 k25 a26 i26 l26 d26 k26 a27 i27 l27 d27 k27 a28 i28 l28 d28 k28 a29 i29 l29 d29 k29 a30 i30 l30 d30 k30 a31 i31 l31 d31 k31 a32 i32 l32 d32 k32 a33 i33 l33 d33 k33 a34 i34 l34 d34 k34 a35 i35 l35 d35 k35 a36 i36 l36 d36 k36 a37 i37 l37 d37 k37 a38 i38 l38 d38 k38 a39 i39 l39 d39 k39 a40 i40 l40 d40 k40 a41 i41 l41 d41 k41 a42 i42 l42 d42 k42 pg_Reader hd_Reader po_Reader sa_Reader mk_Reader kc_Reader n_Reader_calls n_Reader_place pg_Masonry hd_Masonry po_Masonry sa_Masonry mk_Masonry kc_Masonry n_Masonry_length n_Masonry_stone_lengths c_GREATEST_TOTAL c_NO_INSTANCE c_NOT_THERE c_ALREADY_THERE c_OUT_OF_RANGE c_TOO_MANY c_NONE_SUCH c_GREATEST_LENGTH c_MOST_STONE_LENGTHS c_GREATEST_HEIGHT c_MOST_LENGTHS_TOLD c_CREATE c_ADD_STONE_LENGTH c_REMOVE_STONE_LENGTH c_SET_LENGTH c_ROW_COUNT c_ROW c_JOINTS c_COMPATIBLE_COUNT c_ARE_COMPATIBLE c_WALL_COUNT c_FIRST_WALL c_IS_POSSIBLE_LENGTH c_IMPOSSIBLE_LENGTHS c_MIN_STONES c_LONELIEST_ROW c_CHECK_WALL c_SHAPES t_SHAPES t_SHAPES_0 t_SHAPES_1 t_SHAPES_2 t_SHAPES_3 t_SHAPES_4 t_SHAPES_5 t_SHAPES_6 t_SHAPES_7 t_SHAPES_8 t_SHAPES_9 t_SHAPES_10 t_SHAPES_11 t_SHAPES_12 t_SHAPES_13 t_SHAPES_14 t_SHAPES_15 t_SHAPES_16 b_len b_list b_min b_range b_sorted b_sum
  exact ⟨PySem.W.fnOf "answers" "answers" (defArgs s_answers) (defBody s_answers) (defScope s_answers) .none kV14 dc14 pm14 an14 cd14 ct14, fun s us hu => match us, hu with | [_], _ => .of_eq rfl, fun base _ _ => the_answers (fun_mk l14 d14 k14) T⟩
end Jw
set_option maxHeartbeats 2000000
open PySem PySem.W PyProof.Rows
set_option maxRecDepth 100000 in
set_option maxHeartbeats 8000000 in
theorem PySem.Challenge.cw_jointwalls_s01_answers_holds : PySem.Challenge.rw_jointwalls_s01_answers.Holds := by
  w_on; k_headS; (case hw => exact ⟨[.list [.int 16]], by decide +kernel, by decide +kernel⟩)
  k_fillS
  refine L2.walk_specK (r := PySem.Challenge.rw_jointwalls_s01_answers) (k := 6) (CX := L2.CX0) (ps := ["calls"]) (sp := Jw.sp_answers) (by decide +kernel) rfl rfl ⟨rfl, by decide, by decide⟩ (fun w h Y => PySem.W.kIn_of Y) ?F ?S (fun _ _ _ _ z => z)
  case F =>
    intro w mg fa h Y KX G hmg
    refine' Jw.all_mk KX G hmg ?ac_Reader ?ac_Masonry ?a0 ?l0 ?d0 ?k0 ?a1 ?l1 ?d1 ?k1 ?a2 ?l2 ?d2 ?k2 ?a3 ?l3 ?d3 ?k3 ?a4 ?l4 ?d4 ?k4 ?a5 ?l5 ?d5 ?k5 ?a6 ?l6 ?d6 ?k6 ?a7 ?l7 ?d7 ?k7 ?a8 ?l8 ?d8 ?k8 ?a9 ?l9 ?d9 ?k9 ?a10 ?l10 ?d10 ?k10 ?a11 ?l11 ?d11 ?k11 ?a12 ?l12 ?d12 ?k12 ?a13 ?l13 ?d13 ?k13 ?a14 ?l14 ?d14 ?k14 ?a15 ?l15 ?d15 ?k15 ?a16 ?l16 ?d16 ?k16 ?a17 ?l17 ?d17 ?k17 ?a18 ?l18 ?d18 ?k18 ?a19 ?l19 ?d19 ?k19 ?a20 ?i20 ?l20 ?d20 ?k20 ?a21 ?i21 ?l21 ?d21 ?k21 ?a22 ?i22 ?l22 ?d22 ?k22 ?a23 ?i23 ?l23 ?d23 ?k23 ?a24 ?i24 ?l24 ?d24 ?k24 ?a25 ?i25 ?l25 ?d25 ?k25 ?a26 ?i26 ?l26 ?d26 ?k26 ?a27 ?i27 ?l27 ?d27 ?k27 ?a28 ?i28 ?l28 ?d28 ?k28 ?a29 ?i29 ?l29 ?d29 ?k29 ?a30 ?i30 ?l30 ?d30 ?k30 ?a31 ?i31 ?l31 ?d31 ?k31 ?a32 ?i32 ?l32 ?d32 ?k32 ?a33 ?i33 ?l33 ?d33 ?k33 ?a34 ?i34 ?l34 ?d34 ?k34 ?a35 ?i35 ?l35 ?d35 ?k35 ?a36 ?i36 ?l36 ?d36 ?k36 ?a37 ?i37 ?l37 ?d37 ?k37 ?a38 ?i38 ?l38 ?d38 ?k38 ?a39 ?i39 ?l39 ?d39 ?k39 ?a40 ?i40 ?l40 ?d40 ?k40 ?a41 ?i41 ?l41 ?d41 ?k41 ?a42 ?i42 ?l42 ?d42 ?k42 ?pg_Reader ?hd_Reader ?po_Reader ?sa_Reader ?mk_Reader ?kc_Reader ?n_Reader_calls ?n_Reader_place ?pg_Masonry ?hd_Masonry ?po_Masonry ?sa_Masonry ?mk_Masonry ?kc_Masonry ?n_Masonry_length ?n_Masonry_stone_lengths ?c_GREATEST_TOTAL ?c_NO_INSTANCE ?c_NOT_THERE ?c_ALREADY_THERE ?c_OUT_OF_RANGE ?c_TOO_MANY ?c_NONE_SUCH ?c_GREATEST_LENGTH ?c_MOST_STONE_LENGTHS ?c_GREATEST_HEIGHT ?c_MOST_LENGTHS_TOLD ?c_CREATE ?c_ADD_STONE_LENGTH ?c_REMOVE_STONE_LENGTH ?c_SET_LENGTH ?c_ROW_COUNT ?c_ROW ?c_JOINTS ?c_COMPATIBLE_COUNT ?c_ARE_COMPATIBLE ?c_WALL_COUNT ?c_FIRST_WALL ?c_IS_POSSIBLE_LENGTH ?c_IMPOSSIBLE_LENGTHS ?c_MIN_STONES ?c_LONELIEST_ROW ?c_CHECK_WALL ?c_SHAPES ?t_SHAPES ?t_SHAPES_0 ?t_SHAPES_1 ?t_SHAPES_2 ?t_SHAPES_3 ?t_SHAPES_4 ?t_SHAPES_5 ?t_SHAPES_6 ?t_SHAPES_7 ?t_SHAPES_8 ?t_SHAPES_9 ?t_SHAPES_10 ?t_SHAPES_11 ?t_SHAPES_12 ?t_SHAPES_13 ?t_SHAPES_14 ?t_SHAPES_15 ?t_SHAPES_16 ?b_len ?b_list ?b_min ?b_range ?b_sorted ?b_sum
    (case ac_Reader => k_is)
    (case ac_Masonry => k_is)
    (case a0 => k_is)
    (case l0 => k_is)
    (case d0 => k_is)
    (case k0 => k_is)
    (case a1 => k_is)
    (case l1 => k_is)
    (case d1 => k_is)
    (case k1 => k_is)
    (case a2 => k_is)
    (case l2 => k_is)
    (case d2 => k_is)
    (case k2 => k_is)
    (case a3 => k_is)
    (case l3 => k_is)
    (case d3 => k_is)
    (case k3 => k_is)
    (case a4 => k_is)
    (case l4 => k_is)
    (case d4 => k_is)
    (case k4 => k_is)
    (case a5 => k_is)
    (case l5 => k_is)
    (case d5 => k_is)
    (case k5 => k_is)
    (case a6 => k_is)
    (case l6 => k_is)
    (case d6 => k_is)
    (case k6 => k_is)
    (case a7 => k_is)
    (case l7 => k_is)
    (case d7 => k_is)
    (case k7 => k_is)
    (case a8 => k_is)
    (case l8 => k_is)
    (case d8 => k_is)
    (case k8 => k_is)
    (case a9 => k_is)
    (case l9 => k_is)
    (case d9 => k_is)
    (case k9 => k_is)
    (case a10 => k_is)
    (case l10 => k_is)
    (case d10 => k_is)
    (case k10 => k_is)
    (case a11 => k_is)
    (case l11 => k_is)
    (case d11 => k_is)
    (case k11 => k_is)
    (case a12 => k_is)
    (case l12 => k_is)
    (case d12 => k_is)
    (case k12 => k_is)
    (case a13 => k_is)
    (case l13 => k_is)
    (case d13 => k_is)
    (case k13 => k_is)
    (case a14 => k_is)
    (case l14 => k_is)
    (case d14 => k_is)
    (case k14 => k_is)
    (case a15 => k_is)
    (case l15 => k_is)
    (case d15 => k_is)
    (case k15 => k_is)
    (case a16 => k_is)
    (case l16 => k_is)
    (case d16 => k_is)
    (case k16 => k_is)
    (case a17 => k_is)
    (case l17 => k_is)
    (case d17 => k_is)
    (case k17 => k_is)
    (case a18 => k_is)
    (case l18 => k_is)
    (case d18 => k_is)
    (case k18 => k_is)
    (case a19 => k_is)
    (case l19 => k_is)
    (case d19 => k_is)
    (case k19 => k_is)
    (case a20 => k_is)
    (case i20 => k_is)
    (case l20 => k_is)
    (case d20 => k_is)
    (case k20 => k_is)
    (case a21 => k_is)
    (case i21 => k_is)
    (case l21 => k_is)
    (case d21 => k_is)
    (case k21 => k_is)
    (case a22 => k_is)
    (case i22 => k_is)
    (case l22 => k_is)
    (case d22 => k_is)
    (case k22 => k_is)
    (case a23 => k_is)
    (case i23 => k_is)
    (case l23 => k_is)
    (case d23 => k_is)
    (case k23 => k_is)
    (case a24 => k_is)
    (case i24 => k_is)
    (case l24 => k_is)
    (case d24 => k_is)
    (case k24 => k_is)
    (case a25 => k_is)
    (case i25 => k_is)
    (case l25 => k_is)
    (case d25 => k_is)
    (case k25 => k_is)
    (case a26 => k_is)
    (case i26 => k_is)
    (case l26 => k_is)
    (case d26 => k_is)
    (case k26 => k_is)
    (case a27 => k_is)
    (case i27 => k_is)
    (case l27 => k_is)
    (case d27 => k_is)
    (case k27 => k_is)
    (case a28 => k_is)
    (case i28 => k_is)
    (case l28 => k_is)
    (case d28 => k_is)
    (case k28 => k_is)
    (case a29 => k_is)
    (case i29 => k_is)
    (case l29 => k_is)
    (case d29 => k_is)
    (case k29 => k_is)
    (case a30 => k_is)
    (case i30 => k_is)
    (case l30 => k_is)
    (case d30 => k_is)
    (case k30 => k_is)
    (case a31 => k_is)
    (case i31 => k_is)
    (case l31 => k_is)
    (case d31 => k_is)
    (case k31 => k_is)
    (case a32 => k_is)
    (case i32 => k_is)
    (case l32 => k_is)
    (case d32 => k_is)
    (case k32 => k_is)
    (case a33 => k_is)
    (case i33 => k_is)
    (case l33 => k_is)
    (case d33 => k_is)
    (case k33 => k_is)
    (case a34 => k_is)
    (case i34 => k_is)
    (case l34 => k_is)
    (case d34 => k_is)
    (case k34 => k_is)
    (case a35 => k_is)
    (case i35 => k_is)
    (case l35 => k_is)
    (case d35 => k_is)
    (case k35 => k_is)
    (case a36 => k_is)
    (case i36 => k_is)
    (case l36 => k_is)
    (case d36 => k_is)
    (case k36 => k_is)
    (case a37 => k_is)
    (case i37 => k_is)
    (case l37 => k_is)
    (case d37 => k_is)
    (case k37 => k_is)
    (case a38 => k_is)
    (case i38 => k_is)
    (case l38 => k_is)
    (case d38 => k_is)
    (case k38 => k_is)
    (case a39 => k_is)
    (case i39 => k_is)
    (case l39 => k_is)
    (case d39 => k_is)
    (case k39 => k_is)
    (case a40 => k_is)
    (case i40 => k_is)
    (case l40 => k_is)
    (case d40 => k_is)
    (case k40 => k_is)
    (case a41 => k_is)
    (case i41 => k_is)
    (case l41 => k_is)
    (case d41 => k_is)
    (case k41 => k_is)
    (case a42 => k_is)
    (case i42 => k_is)
    (case l42 => k_is)
    (case d42 => k_is)
    (case k42 => k_is)
    (case pg_Reader => k_is)
    (case hd_Reader => k_is)
    (case po_Reader => k_is)
    (case sa_Reader => k_is)
    (case mk_Reader => k_is)
    (case kc_Reader => k_is)
    (case n_Reader_calls => k_is)
    (case n_Reader_place => k_is)
    (case pg_Masonry => k_is)
    (case hd_Masonry => k_is)
    (case po_Masonry => k_is)
    (case sa_Masonry => k_is)
    (case mk_Masonry => k_is)
    (case kc_Masonry => k_is)
    (case n_Masonry_length => k_is)
    (case n_Masonry_stone_lengths => k_is)
    (case c_GREATEST_TOTAL => k_is)
    (case c_NO_INSTANCE => k_is)
    (case c_NOT_THERE => k_is)
    (case c_ALREADY_THERE => k_is)
    (case c_OUT_OF_RANGE => k_is)
    (case c_TOO_MANY => k_is)
    (case c_NONE_SUCH => k_is)
    (case c_GREATEST_LENGTH => k_is)
    (case c_MOST_STONE_LENGTHS => k_is)
    (case c_GREATEST_HEIGHT => k_is)
    (case c_MOST_LENGTHS_TOLD => k_is)
    (case c_CREATE => k_is)
    (case c_ADD_STONE_LENGTH => k_is)
    (case c_REMOVE_STONE_LENGTH => k_is)
    (case c_SET_LENGTH => k_is)
    (case c_ROW_COUNT => k_is)
    (case c_ROW => k_is)
    (case c_JOINTS => k_is)
    (case c_COMPATIBLE_COUNT => k_is)
    (case c_ARE_COMPATIBLE => k_is)
    (case c_WALL_COUNT => k_is)
    (case c_FIRST_WALL => k_is)
    (case c_IS_POSSIBLE_LENGTH => k_is)
    (case c_IMPOSSIBLE_LENGTHS => k_is)
    (case c_MIN_STONES => k_is)
    (case c_LONELIEST_ROW => k_is)
    (case c_CHECK_WALL => k_is)
    (case c_SHAPES => k_is)
    (case t_SHAPES => k_is)
    (case t_SHAPES_0 => k_is)
    (case t_SHAPES_1 => k_is)
    (case t_SHAPES_2 => k_is)
    (case t_SHAPES_3 => k_is)
    (case t_SHAPES_4 => k_is)
    (case t_SHAPES_5 => k_is)
    (case t_SHAPES_6 => k_is)
    (case t_SHAPES_7 => k_is)
    (case t_SHAPES_8 => k_is)
    (case t_SHAPES_9 => k_is)
    (case t_SHAPES_10 => k_is)
    (case t_SHAPES_11 => k_is)
    (case t_SHAPES_12 => k_is)
    (case t_SHAPES_13 => k_is)
    (case t_SHAPES_14 => k_is)
    (case t_SHAPES_15 => k_is)
    (case t_SHAPES_16 => k_is)
    (case b_len => k_is)
    (case b_list => k_is)
    (case b_min => k_is)
    (case b_range => k_is)
    (case b_sorted => k_is)
    (case b_sum => k_is)
  case S =>
    intro K H xs a hO hwi hask hx
    cases hx with
    | cons h1 h2 =>
      cases h2
      cases h1 with
      | lst hs ha =>
        have e := L2.ints_dw a.1 _ ha
        subst e
        obtain ⟨hc, hl⟩ := Jw.asked_is hask
        have h8 : a.1.length ≤ 262144 := by
          have h1 := (Bool.and_eq_true_iff.mp hwi).1
          have h2 := (Bool.and_eq_true_iff.mp h1).1
          have h2' : (decide (0 ≤ a.1.length) && decide (a.1.length ≤ 8580)) = true := h2
          have h3 := (Bool.and_eq_true_iff.mp h2').2
          exact Nat.le_trans (of_decide_eq_true h3) (by decide)
        exact ⟨_, a.1, rfl, hs, hc, hl, h8, fun H' p hp => .lst (L2.SqL.of hp) (L2.dw_ints _)⟩
#print axioms PySem.Challenge.cw_jointwalls_s01_answers_holds
