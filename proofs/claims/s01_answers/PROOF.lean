import PyProof.Rows.All
import Su184Spec
import Wide.All
import OpenK.AllK
import Wide.FinOn
import Open.SpecLaws
import KE.OsGo
import HandS.ForSpec
import HandS.ForMost
import HandS.SortInts
import HandS.SortRule
import HandS.TupSets
import HandS.Conv
import HandS.Flow
import HandS.Walk
import KE.GoesEnum
import PySem.Challenge.RW_roundtypes_s01_answers
import PyFlatLaws
import PySu184
import HandS.Deep
namespace Rt
open Su183

theorem red_mul (c : Nat) (hc : 0 < c) (y : Int) (q : Nat) : red ((c : Int) * y) (c * q) = red y q := by
  unfold red
  have h1 : ((c : Int) * y).natAbs = c * y.natAbs := by simp [Int.natAbs_mul]
  rw [h1, Nat.gcd_mul_left]
  have hc' : (0 : Int) < (c : Int) := by omega
  rw [Int.natCast_mul, Int.mul_ediv_mul_of_pos _ _ hc', Nat.mul_div_mul_left _ _ hc]

theorem red_parts (X : Int) (D : Nat) (hD : 0 < D) : ∃ c : Nat, 0 < c ∧ 0 < (red X D).2 ∧ X = (c : Int) * (red X D).1 ∧ D = c * (red X D).2 := by
  refine ⟨Nat.gcd X.natAbs D, Nat.gcd_pos_of_pos_right _ hD, ?_, ?_, ?_⟩
  · exact Nat.div_pos (Nat.le_of_dvd hD (Nat.gcd_dvd_right _ _)) (Nat.gcd_pos_of_pos_right _ hD)
  · show X = _ * (X / _)
    rw [Int.mul_ediv_cancel']
    exact Int.ofNat_dvd_left.2 (Nat.gcd_dvd_left _ _)
  · show D = _ * (D / _)
    rw [Nat.mul_div_cancel' (Nat.gcd_dvd_right _ _)]

theorem red_inj {X Y : Int} {D : Nat} (hD : 0 < D) (h : red X D = red Y D) : X = Y := by
  obtain ⟨c, hc, h2, hX, hDc⟩ := red_parts X D hD
  obtain ⟨c', hc', h2', hY, hDc'⟩ := red_parts Y D hD
  rw [h] at hX hDc h2
  have : c = c' := by
    have : c * (red Y D).2 = c' * (red Y D).2 := by omega
    exact Nat.eq_of_mul_eq_mul_right h2 this
  rw [this] at hX
  exact hX.trans hY.symm

theorem lt_red {X Y : Int} {D : Nat} (hD : 0 < D) : lt (red X D) (red Y D) = decide (X < Y) := by
  obtain ⟨c, hc, h2, hX, hDc⟩ := red_parts X D hD
  obtain ⟨c', hc', h2', hY, hDc'⟩ := red_parts Y D hD
  unfold lt
  generalize red X D = x at *
  generalize red Y D = y at *
  have hDi : (0 : Int) < (D : Int) := by omega
  have e1 : (D : Int) = (c : Int) * (x.2 : Int) := by rw [hDc]; simp
  have e2 : (D : Int) = (c' : Int) * (y.2 : Int) := by rw [hDc']; simp
  have hcc : (0 : Int) < (c : Int) * (c' : Int) := Int.mul_pos (by omega) (by omega)
  have k1 : ((c : Int) * (c' : Int)) * (x.1 * (y.2 : Int)) = (D : Int) * X := by rw [hX, e2]; grind
  have k2 : ((c : Int) * (c' : Int)) * (y.1 * (x.2 : Int)) = (D : Int) * Y := by rw [hY, e1]; grind
  apply decide_eq_decide.2
  constructor
  · intro h
    have := Int.mul_lt_mul_of_pos_left h hcc
    rw [k1, k2] at this
    exact Int.lt_of_mul_lt_mul_left this (by omega)
  · intro h
    have := Int.mul_lt_mul_of_pos_left h hDi
    rw [← k1, ← k2] at this
    exact Int.lt_of_mul_lt_mul_left this (by omega)

theorem red_one (X : Int) : red X 1 = (X, 1) := by
  unfold red; simp

theorem ofNat_red (i : Nat) : ofNat i = red (i : Int) 1 := by rw [red_one]; rfl

theorem lt_red_nat {X : Int} {D i : Nat} (hD : 0 < D) : lt (red X D) (ofNat i) = decide (X < (i : Int) * (D : Int)) := by
  have : ofNat i = red ((D : Int) * (i : Int)) D := by
    have := red_mul D hD (i : Int) 1
    rw [Nat.mul_one] at this
    rw [this, ofNat_red]
  rw [this, lt_red hD, Int.mul_comm]
theorem lt_nat_red {X : Int} {D i : Nat} (hD : 0 < D) : lt (ofNat i) (red X D) = decide ((i : Int) * (D : Int) < X) := by
  have : ofNat i = red ((D : Int) * (i : Int)) D := by
    have := red_mul D hD (i : Int) 1
    rw [Nat.mul_one] at this
    rw [this, ofNat_red]
  rw [this, lt_red hD, Int.mul_comm]

/-- the straight map of piece i, all times D -/
def aff (g : Abs) (D : Int) (i : Nat) (X : Int) : Int := (g.point i : Int) * D + g.slope i * (X - (i : Int) * D)
def stepD (g : Abs) (D : Int) (X : Int) : Int := aff g D (min (g.n - 1) (X / D).toNat) X
def aft (g : Abs) (D : Int) (X : Int) : Nat → Int
  | 0 => X
  | k + 1 => aft g D (stepD g D X) k
def orb (g : Abs) (D : Int) (X : Int) : Nat → List Int
  | 0 => []
  | k + 1 => X :: orb g D (stepD g D X) k

theorem put_red (g : Abs) (X : Int) (D : Nat) (hD : 0 < D) : g.put (red X D) = red (stepD g D X) D := by
  obtain ⟨c, hc, h2, hX, hDc⟩ := red_parts X D hD
  unfold Abs.put Abs.pieceOf
  generalize hx : red X D = x at *
  have hdiv : x.1 / (x.2 : Int) = X / (D : Int) := by
    rw [hX, hDc, Int.natCast_mul, Int.mul_ediv_mul_of_pos _ _ (by omega)]
  simp only []
  rw [hdiv]
  unfold stepD aff
  generalize min (g.n - 1) (X / (D : Int)).toNat = i
  have : (g.point i : Int) * (D : Int) + g.slope i * (X - (i : Int) * (D : Int)) = (c : Int) * ((g.point i : Int) * (x.2 : Int) + g.slope i * (x.1 - (i : Int) * (x.2 : Int))) := by
    rw [hX, hDc, Int.natCast_mul]; grind
  rw [this]
  conv => rhs; rw [hDc]
  rw [red_mul c hc]

theorem after_red (g : Abs) (D : Nat) (hD : 0 < D) (k : Nat) (X : Int) : g.after (red X D) k = red (aft g D X k) D := by
  induction k generalizing X with
  | zero => rfl
  | succ k ih => show g.after (g.put (red X D)) k = red (aft g D (stepD g D X) k) D; rw [put_red g X D hD, ih]

theorem way_red (g : Abs) (D : Nat) (hD : 0 < D) (k : Nat) (X : Int) : g.way (red X D) k = (orb g D X k).map fun y => red y D := by
  induction k generalizing X with
  | zero => rfl
  | succ k ih => show red X D :: g.way (g.put (red X D)) k = red X D :: (orb g D (stepD g D X) k).map _; rw [put_red g X D hD, ih]

theorem back_red (g : Abs) (D : Nat) (hD : 0 < D) (k : Nat) (X : Int) : g.back (red X D) k = true ↔ (0 < k ∧ aft g D X k = X ∧ ∀ j, 0 < j → j < k → aft g D X j ≠ X) := by
  unfold Abs.back
  simp only [Bool.and_eq_true, decide_eq_true_eq, List.all_eq_true, List.mem_range, Bool.or_eq_true, beq_iff_eq, bne_iff_ne, after_red g D hD]
  constructor
  · rintro ⟨h1, h2, h3⟩
    refine ⟨h1, red_inj hD h2, fun j hj hk he => ?_⟩
    cases h3 j hk with
    | inl h => omega
    | inr h => exact h (by rw [he])
  · rintro ⟨h1, h2, h3⟩
    refine ⟨h1, by rw [h2], fun j hk => ?_⟩
    by_cases hj : j = 0
    · exact .inl hj
    · exact .inr fun he => h3 j (by omega) hk (red_inj hD he)

end Rt

namespace Rt
open Su183

/-- the pieces of w are put one over the next, the last one over t -/
def pathTo (g : Abs) : List Nat → Nat → Prop
  | [], _ => True
  | i :: w, t => g.covers i (w.headD t) = true ∧ pathTo g w t
def run (g : Abs) (D : Int) : List Nat → Int → Int
  | [], X => X
  | i :: w, X => run g D w (aff g D i X)
def places (g : Abs) (D : Int) : List Nat → Int → List Int
  | [], _ => []
  | i :: w, X => X :: places g D w (aff g D i X)
def inside (g : Abs) (D : Int) : List Nat → Int → Prop
  | [], _ => True
  | i :: w, X => (i : Int) * D ≤ X ∧ X ≤ ((i : Int) + 1) * D ∧ inside g D w (aff g D i X)
def sprod (g : Abs) : List Nat → Int
  | [] => 1
  | i :: w => g.slope i * sprod g w

theorem covers_iff (g : Abs) (i j : Nat) : g.covers i j = true ↔ (min (g.point i) (g.point (i + 1)) ≤ j ∧ j < max (g.point i) (g.point (i + 1))) := by
  unfold Abs.covers; simp

theorem aff_hi (g : Abs) (D : Int) (i : Nat) (X : Int) : aff g D i X = (g.point (i + 1) : Int) * D + g.slope i * (X - ((i : Int) + 1) * D) := by
  unfold aff Abs.slope; grind
theorem aff_lo (g : Abs) (D : Int) (i : Nat) (X : Int) : aff g D i X = (g.point i : Int) * D + g.slope i * (X - (i : Int) * D) := rfl

theorem along_gen (g : Abs) (D : Int) (w : List Nat) (X : Int) (z : Int × Int) :
    run g D w (z.1 * X + z.2 * D) = (w.foldl (fun z i => (g.slope i * z.1, (g.point i : Int) + g.slope i * (z.2 - (i : Int)))) z).1 * X + (w.foldl (fun z i => (g.slope i * z.1, (g.point i : Int) + g.slope i * (z.2 - (i : Int)))) z).2 * D := by
  induction w generalizing z with
  | nil => rfl
  | cons i w ih =>
    show run g D w (aff g D i (z.1 * X + z.2 * D)) = _
    rw [List.foldl_cons, ← ih]
    congr 1
    unfold aff; grind
theorem run_along (g : Abs) (D : Int) (w : List Nat) (X : Int) : run g D w X = (g.along w).1 * X + (g.along w).2 * D := by
  have := along_gen g D w X (1, 0)
  simp only [Int.one_mul, Int.zero_mul, Int.add_zero] at this
  exact this
theorem along_fst_gen (g : Abs) (w : List Nat) (z : Int × Int) :
    (w.foldl (fun z i => (g.slope i * z.1, (g.point i : Int) + g.slope i * (z.2 - (i : Int)))) z).1 = sprod g w * z.1 := by
  induction w generalizing z with
  | nil => simp [sprod]
  | cons i w ih => rw [List.foldl_cons, ih]; simp only [sprod]; grind
theorem along_fst (g : Abs) (w : List Nat) : (g.along w).1 = sprod g w := by
  have := along_fst_gen g w (1, 0)
  rw [Int.mul_one] at this
  exact this

theorem run_append (g : Abs) (D : Int) (v w : List Nat) (X : Int) : run g D (v ++ w) X = run g D w (run g D v X) := by
  induction v generalizing X with
  | nil => rfl
  | cons i v ih => exact ih _
theorem places_append (g : Abs) (D : Int) (v w : List Nat) (X : Int) : places g D (v ++ w) X = places g D v X ++ places g D w (run g D v X) := by
  induction v generalizing X with
  | nil => rfl
  | cons i v ih => simp only [List.cons_append, places, run, ih]
theorem places_length (g : Abs) (D : Int) (w : List Nat) (X : Int) : (places g D w X).length = w.length := by
  induction w generalizing X with
  | nil => rfl
  | cons i w ih => simp [places, ih]
theorem sprod_append (g : Abs) (v w : List Nat) : sprod g (v ++ w) = sprod g v * sprod g w := by
  induction v with
  | nil => simp [sprod]
  | cons i v ih => simp only [List.cons_append, sprod, ih]; grind
theorem pathTo_append (g : Abs) (v w : List Nat) (t : Nat) : pathTo g (v ++ w) t ↔ pathTo g v (w.headD t) ∧ pathTo g w t := by
  induction v with
  | nil => simp [pathTo]
  | cons i v ih =>
    simp only [List.cons_append, pathTo, ih]
    have : (v ++ w).headD t = v.headD (w.headD t) := by cases v <;> rfl
    rw [this, and_assoc]

/-- what lies beyond a piece stays beyond, and farther -/
theorem beyond (g : Abs) (D : Int) (hD : 0 < D) (w : List Nat) (t : Nat) : ∀ (X e : Int), pathTo g w t → 0 < e →
    (((w.headD t : Int) + 1) * D + e ≤ X → (0 < sprod g w ∧ ((t : Int) + 1) * D + sprod g w * e ≤ run g D w X) ∨ (sprod g w < 0 ∧ run g D w X ≤ (t : Int) * D + sprod g w * e)) ∧
    (X ≤ (w.headD t : Int) * D - e → (0 < sprod g w ∧ run g D w X ≤ (t : Int) * D - sprod g w * e) ∨ (sprod g w < 0 ∧ ((t : Int) + 1) * D - sprod g w * e ≤ run g D w X)) := by
  induction w with
  | nil =>
    intro X e _ he
    simp only [List.headD_nil, sprod, run, Int.one_mul]
    exact ⟨fun h => .inl ⟨by omega, h⟩, fun h => .inl ⟨by omega, h⟩⟩
  | cons i w ih =>
    intro X e hp he
    obtain ⟨hc, hp⟩ := hp
    rw [covers_iff] at hc
    simp only [List.headD_cons, run, sprod]
    generalize hj : w.headD t = j at *
    have hlo := aff_lo g D i X
    have hhi := aff_hi g D i X
    have hs : g.slope i = (g.point (i + 1) : Int) - (g.point i : Int) := rfl
    by_cases hpos : g.point i < g.point (i + 1)
    · have hs0 : 0 < g.slope i := by omega
      have hse : 0 < g.slope i * e := Int.mul_pos hs0 he
      have hjlo : g.point i ≤ j := by omega
      have hjhi : j + 1 ≤ g.point (i + 1) := by omega
      obtain ⟨ih1, ih2⟩ := ih (aff g D i X) (g.slope i * e) hp hse
      constructor
      · intro hX
        have h1 : g.slope i * e ≤ g.slope i * (X - ((i : Int) + 1) * D) := Int.mul_le_mul_of_nonneg_left (by omega) (by omega)
        have h2 : ((j : Int) + 1) * D ≤ (g.point (i + 1) : Int) * D := Int.mul_le_mul_of_nonneg_right (by omega) (by omega)
        rcases ih1 (by omega) with ⟨a, b⟩ | ⟨a, b⟩
        · exact .inl ⟨Int.mul_pos hs0 a, by grind⟩
        · exact .inr ⟨Int.mul_neg_of_pos_of_neg hs0 a, by grind⟩
      · intro hX
        have h1 : g.slope i * (X - (i : Int) * D) ≤ g.slope i * (-e) := Int.mul_le_mul_of_nonneg_left (by omega) (by omega)
        have h2 : (g.point i : Int) * D ≤ (j : Int) * D := Int.mul_le_mul_of_nonneg_right (by omega) (by omega)
        rcases ih2 (by rw [hlo]; have : g.slope i * (-e) = -(g.slope i * e) := by grind
                       omega) with ⟨a, b⟩ | ⟨a, b⟩
        · exact .inl ⟨Int.mul_pos hs0 a, by grind⟩
        · exact .inr ⟨Int.mul_neg_of_pos_of_neg hs0 a, by grind⟩
    · have hs0 : g.slope i < 0 := by omega
      have hse : 0 < (-g.slope i) * e := Int.mul_pos (by omega) he
      have hjlo : g.point (i + 1) ≤ j := by omega
      have hjhi : j + 1 ≤ g.point i := by omega
      obtain ⟨ih1, ih2⟩ := ih (aff g D i X) ((-g.slope i) * e) hp hse
      constructor
      · intro hX
        have h1 : (-g.slope i) * e ≤ (-g.slope i) * (X - ((i : Int) + 1) * D) := Int.mul_le_mul_of_nonneg_left (by omega) (by omega)
        have h2 : (g.point (i + 1) : Int) * D ≤ (j : Int) * D := Int.mul_le_mul_of_nonneg_right (by omega) (by omega)
        rcases ih2 (by rw [hhi]; have : (-g.slope i) * (X - ((i : Int) + 1) * D) = -(g.slope i * (X - ((i : Int) + 1) * D)) := by grind
                       omega) with ⟨a, b⟩ | ⟨a, b⟩
        · exact .inr ⟨Int.mul_neg_of_neg_of_pos hs0 a, by grind⟩
        · exact .inl ⟨Int.mul_pos_of_neg_of_neg hs0 a, by grind⟩
      · intro hX
        have h1 : (-g.slope i) * (X - (i : Int) * D) ≤ (-g.slope i) * (-e) := Int.mul_le_mul_of_nonneg_left (by omega) (by omega)
        have h2 : ((j : Int) + 1) * D ≤ (g.point i : Int) * D := Int.mul_le_mul_of_nonneg_right (by omega) (by omega)
        rcases ih1 (by rw [hlo]
                       have k1 : (-g.slope i) * (X - (i : Int) * D) = -(g.slope i * (X - (i : Int) * D)) := by grind
                       have k2 : (-g.slope i) * (-e) = -((-g.slope i) * e) := by grind
                       omega) with ⟨a, b⟩ | ⟨a, b⟩
        · exact .inr ⟨Int.mul_neg_of_neg_of_pos hs0 a, by grind⟩
        · exact .inl ⟨Int.mul_pos_of_neg_of_neg hs0 a, by grind⟩

theorem inside_of_end (g : Abs) (D : Int) (hD : 0 < D) (w : List Nat) (t : Nat) : ∀ X, pathTo g w t →
    (t : Int) * D ≤ run g D w X → run g D w X ≤ ((t : Int) + 1) * D → inside g D w X := by
  induction w with
  | nil => intros; trivial
  | cons i w ih =>
    intro X hp h1 h2
    have htD : (t : Int) * D ≤ ((t : Int) + 1) * D := Int.mul_le_mul_of_nonneg_right (by omega) (by omega)
    refine ⟨?_, ?_, ih _ hp.2 h1 h2⟩
    · apply Int.not_lt.1
      intro hX
      rcases (beyond g D hD (i :: w) t X ((i : Int) * D - X) hp (by omega)).2 (by simp only [List.headD_cons]; omega) with ⟨a, b⟩ | ⟨a, b⟩
      · have := Int.mul_pos a (show 0 < (i : Int) * D - X by omega)
        omega
      · have := Int.mul_neg_of_neg_of_pos a (show 0 < (i : Int) * D - X by omega)
        omega
    · apply Int.not_lt.1
      intro hX
      rcases (beyond g D hD (i :: w) t X (X - ((i : Int) + 1) * D) hp (by omega)).1 (by simp only [List.headD_cons]; omega) with ⟨a, b⟩ | ⟨a, b⟩
      · have := Int.mul_pos a (show 0 < X - ((i : Int) + 1) * D by omega)
        omega
      · have := Int.mul_neg_of_neg_of_pos a (show 0 < X - ((i : Int) + 1) * D by omega)
        omega

/-- the place that comes back along a loop lies in its pieces -/
theorem inside_of_loop (g : Abs) (D : Int) (hD : 0 < D) (i : Nat) (w : List Nat) (X : Int) (hp : pathTo g (i :: w) i) (h1 : sprod g (i :: w) ≠ 1) (hX : run g D (i :: w) X = X) : inside g D (i :: w) X := by
  have htD : (i : Int) * D + D = ((i : Int) + 1) * D := by grind
  apply inside_of_end g D hD _ i X hp
  · apply Int.not_lt.1
    intro hlt
    rw [hX] at hlt
    rcases (beyond g D hD (i :: w) i X ((i : Int) * D - X) hp (by omega)).2 (by simp only [List.headD_cons]; omega) with ⟨a, b⟩ | ⟨a, b⟩
    · rw [hX] at b
      have : 1 * ((i : Int) * D - X) < sprod g (i :: w) * ((i : Int) * D - X) := Int.mul_lt_mul_of_pos_right (by omega) (by omega)
      omega
    · have := Int.mul_neg_of_neg_of_pos a (show 0 < (i : Int) * D - X by omega)
      rw [hX] at b
      omega
  · apply Int.not_lt.1
    intro hlt
    rw [hX] at hlt
    rcases (beyond g D hD (i :: w) i X (X - ((i : Int) + 1) * D) hp (by omega)).1 (by simp only [List.headD_cons]; omega) with ⟨a, b⟩ | ⟨a, b⟩
    · rw [hX] at b
      have : 1 * (X - ((i : Int) + 1) * D) < sprod g (i :: w) * (X - ((i : Int) + 1) * D) := Int.mul_lt_mul_of_pos_right (by omega) (by omega)
      omega
    · have := Int.mul_neg_of_neg_of_pos a (show 0 < X - ((i : Int) + 1) * D by omega)
      rw [hX] at b
      omega

theorem stepD_inside (g : Abs) (D : Int) (hD : 0 < D) (i : Nat) (X : Int) (hi : i < g.n) (h1 : (i : Int) * D ≤ X) (h2 : X ≤ ((i : Int) + 1) * D) : stepD g D X = aff g D i X := by
  unfold stepD
  by_cases h : X < ((i : Int) + 1) * D
  · have : X / D = (i : Int) := by
      apply Int.le_antisymm
      · have := Int.ediv_lt_of_lt_mul hD h
        omega
      · exact Int.le_ediv_of_mul_le hD h1
    rw [this]
    have : min (g.n - 1) ((i : Int)).toNat = i := by omega
    rw [this]
  · have hX : X = ((i : Int) + 1) * D := by omega
    have : X / D = (i : Int) + 1 := by rw [hX, Int.mul_ediv_cancel _ (by omega)]
    rw [this]
    by_cases hn : i + 1 < g.n
    · have : min (g.n - 1) ((i : Int) + 1).toNat = i + 1 := by omega
      rw [this, aff_lo, aff_hi, hX]
      have : (((i + 1 : Nat)) : Int) = (i : Int) + 1 := by omega
      rw [this]
      grind
    · have : min (g.n - 1) ((i : Int) + 1).toNat = i := by omega
      rw [this]

theorem orb_inside (g : Abs) (D : Int) (hD : 0 < D) (w : List Nat) : ∀ X, (∀ i ∈ w, i < g.n) → inside g D w X → orb g D X w.length = places g D w X ∧ aft g D X w.length = run g D w X := by
  induction w with
  | nil => intros; exact ⟨rfl, rfl⟩
  | cons i w ih =>
    intro X hw hin
    have hi := hw i (by simp)
    obtain ⟨a, b⟩ := ih (aff g D i X) (fun j hj => hw j (by simp [hj])) hin.2.2
    have hs := stepD_inside g D hD i X hi hin.1 hin.2.1
    constructor
    · show X :: orb g D (stepD g D X) w.length = X :: places g D w (aff g D i X)
      rw [hs, a]
    · show aft g D (stepD g D X) w.length = run g D w (aff g D i X)
      rw [hs, b]

theorem goes_red (g : Abs) (D : Nat) (hD : 0 < D) (w : List Nat) : ∀ X, (∀ i ∈ w, i < g.n) → (g.goes (red X D) w = true ↔ inside g D w X) := by
  induction w with
  | nil => intros; simp [Abs.goes, inside]
  | cons i w ih =>
    intro X hw
    have hi := hw i (by simp)
    have hle1 : le (ofNat i) (red X D) = true ↔ (i : Int) * (D : Int) ≤ X := by
      unfold le; rw [lt_red_nat hD]; simp
    have hle2 : le (red X D) (ofNat (i + 1)) = true ↔ X ≤ ((i : Int) + 1) * (D : Int) := by
      unfold le; rw [lt_nat_red hD]; simp
    unfold Abs.goes inside
    rw [Bool.and_eq_true, Bool.and_eq_true, hle1, hle2, put_red g X D hD, ih _ (fun j hj => hw j (by simp [hj]))]
    constructor
    · rintro ⟨a, b, c⟩
      rw [stepD_inside g D (by omega) i X hi a b] at c
      exact ⟨a, b, c⟩
    · rintro ⟨a, b, c⟩
      rw [stepD_inside g D (by omega) i X hi a b]
      exact ⟨a, b, c⟩
end Rt

namespace Rt
open Su183

def rank (l : List Int) (y : Int) : Nat := (l.filter fun z => decide (z < y)).length
def ranks (l : List Int) : List Nat := l.map (rank l)
/-- a row begun anew with its first 0 -/
def fromZero (r : List Nat) : List Nat := r.drop (r.idxOf 0) ++ r.take (r.idxOf 0)
def kindI (l : List Int) : List Nat := fromZero (ranks l)

theorem fromZero_split (p q : List Nat) (hp : 0 ∉ p) : fromZero (p ++ 0 :: q) = 0 :: q ++ p := by
  have : (p ++ 0 :: q).idxOf 0 = p.length := by
    rw [List.idxOf_append, if_neg hp]; simp
  unfold fromZero
  rw [this]; simp

theorem rank_perm {l m : List Int} (h : l.Perm m) (y : Int) : rank l y = rank m y := (h.filter _).length_eq

theorem ranks_append_comm (a b : List Int) : ranks (a ++ b) = a.map (rank (b ++ a)) ++ b.map (rank (b ++ a)) := by
  unfold ranks
  have : rank (a ++ b) = rank (b ++ a) := funext fun y => rank_perm List.perm_append_comm y
  rw [this, List.map_append]

theorem rank_zero_iff (l : List Int) (y : Int) : rank l y = 0 ↔ ∀ z ∈ l, y ≤ z := by
  unfold rank
  rw [List.length_eq_zero_iff, List.filter_eq_nil_iff]
  simp

theorem exists_least : ∀ (l : List Int), l ≠ [] → ∃ y ∈ l, ∀ z ∈ l, y ≤ z
  | [], h => absurd rfl h
  | [x], _ => ⟨x, by simp, by simp⟩
  | x :: y :: l, _ => by
    obtain ⟨m, hm, hl⟩ := exists_least (y :: l) (by simp)
    by_cases h : x ≤ m
    · refine ⟨x, by simp, fun z hz => ?_⟩
      rcases List.mem_cons.1 hz with rfl | hz
      · exact Int.le_refl _
      · have := hl z hz; omega
    · refine ⟨m, List.mem_cons_of_mem _ hm, fun z hz => ?_⟩
      rcases List.mem_cons.1 hz with rfl | hz
      · omega
      · exact hl z hz

theorem rank_ne_zero {l : List Int} {y z : Int} (hy : y ∈ l) (hl : ∀ z ∈ l, y ≤ z) (hzl : z ∈ l) (hz : z ≠ y) : rank l z ≠ 0 := by
  intro h
  have := (rank_zero_iff l z).1 h y hy
  have := hl z hzl
  omega

theorem kindI_least (p q : List Int) (y : Int) (hn : (p ++ y :: q).Nodup) (hl : ∀ z ∈ p ++ y :: q, y ≤ z) : kindI (p ++ y :: q) = ranks (y :: q ++ p) := by
  unfold kindI
  rw [ranks_append_comm, List.map_cons]
  have hmem : ∀ z, z ∈ y :: q ++ p ↔ z ∈ p ++ y :: q := fun z => by simp; grind
  have h0 : rank (y :: q ++ p) y = 0 := (rank_zero_iff _ _).2 fun z hz => hl z ((hmem z).1 hz)
  rw [h0, fromZero_split]
  · unfold ranks
    rw [List.map_append, List.map_cons, h0]
  · intro h
    obtain ⟨z, hz, e⟩ := List.mem_map.1 h
    refine rank_ne_zero (l := y :: q ++ p) (y := y) (z := z) (by simp) (fun z hz => hl z ((hmem z).1 hz)) ((hmem z).2 (by simp [hz])) ?_ e
    rintro rfl
    rw [List.nodup_append] at hn
    exact hn.2.2 z hz z (by simp) rfl

theorem kindI_swap (a b : List Int) (hn : (a ++ b).Nodup) : kindI (a ++ b) = kindI (b ++ a) := by
  by_cases h0 : a ++ b = []
  · have := List.append_eq_nil_iff.1 h0
    rw [this.1, this.2]
  obtain ⟨y, hy, hl⟩ := exists_least (a ++ b) h0
  have hn' : (b ++ a).Nodup := (List.perm_append_comm.nodup_iff).1 hn
  have hl' : ∀ z ∈ b ++ a, y ≤ z := fun z hz => hl z (by simp at hz ⊢; grind)
  rcases List.mem_append.1 hy with h | h
  · obtain ⟨p, q, rfl⟩ := List.append_of_mem h
    have e1 : p ++ y :: q ++ b = p ++ y :: (q ++ b) := by simp
    have e2 : b ++ (p ++ y :: q) = (b ++ p) ++ y :: q := by simp
    rw [e1] at hn hl ⊢
    rw [e2] at hn' hl' ⊢
    rw [kindI_least _ _ _ hn hl, kindI_least _ _ _ hn' hl']
    simp
  · obtain ⟨p, q, rfl⟩ := List.append_of_mem h
    have e1 : a ++ (p ++ y :: q) = (a ++ p) ++ y :: q := by simp
    have e2 : p ++ y :: q ++ a = p ++ y :: (q ++ a) := by simp
    rw [e1] at hn hl ⊢
    rw [e2] at hn' hl' ⊢
    rw [kindI_least _ _ _ hn hl, kindI_least _ _ _ hn' hl']
    simp

theorem kindI_map (l : List Int) (f : Int → Int) (hf : ∀ x ∈ l, ∀ y ∈ l, (f x < f y ↔ x < y)) : kindI (l.map f) = kindI l := by
  unfold kindI
  have : ranks (l.map f) = ranks l := by
    unfold ranks
    rw [List.map_map]
    apply List.map_congr_left
    intro y hy
    show rank (l.map f) (f y) = rank l y
    unfold rank
    rw [List.filter_map, List.length_map]
    congr 1
    apply List.filter_congr
    intro x hx
    simp [hf x hx y hy]
  rw [this]

/-! orbits -/
theorem aft_add (g : Abs) (D X : Int) (a b : Nat) : aft g D X (a + b) = aft g D (aft g D X a) b := by
  induction a generalizing X with
  | zero => rw [Nat.zero_add]; rfl
  | succ a ih => rw [Nat.succ_add]; exact ih _
theorem aft_succ (g : Abs) (D X : Int) (a : Nat) : aft g D X (a + 1) = stepD g D (aft g D X a) := aft_add g D X a 1
theorem orb_length (g : Abs) (D X : Int) (k : Nat) : (orb g D X k).length = k := by
  induction k generalizing X with
  | zero => rfl
  | succ k ih => simp [orb, ih]
theorem orb_add (g : Abs) (D X : Int) (a b : Nat) : orb g D X (a + b) = orb g D X a ++ orb g D (aft g D X a) b := by
  induction a generalizing X with
  | zero => simp [orb, aft]
  | succ a ih => rw [Nat.succ_add]; simp only [orb, aft, List.cons_append, ih]
theorem orb_eq (g : Abs) (D X : Int) (k : Nat) : orb g D X k = (List.range k).map (aft g D X) := by
  induction k with
  | zero => rfl
  | succ k ih => rw [orb_add, ih, List.range_succ, List.map_append]; rfl

/-- X comes back in just k steps -/
structure Back (g : Abs) (D X : Int) (k : Nat) : Prop where
  pos : 0 < k
  ret : aft g D X k = X
  first : ∀ j, 0 < j → j < k → aft g D X j ≠ X

theorem Back.inj {g D X k} (h : Back g D X k) {a b : Nat} (ha : a < k) (hb : b < k) (e : aft g D X a = aft g D X b) : a = b := by
  have key : ∀ a b, a < b → b < k → aft g D X a = aft g D X b → False := by
    intro a b hab hb e
    have h1 : aft g D X (a + (k - b)) = aft g D X (b + (k - b)) := by rw [aft_add, aft_add, e]
    rw [Nat.add_sub_cancel' (by omega), h.ret] at h1
    exact h.first _ (by omega) (by omega) h1
  rcases Nat.lt_trichotomy a b with h1 | h1 | h1
  · exact (key a b h1 hb e).elim
  · exact h1
  · exact (key b a h1 ha e.symm).elim

theorem nodup_map_range {f : Nat → Int} {k : Nat} (h : ∀ a b, a < k → b < k → f a = f b → a = b) : ((List.range k).map f).Nodup := by
  rw [List.nodup_iff_pairwise_ne, List.pairwise_map]
  apply List.Pairwise.imp_of_mem _ (List.nodup_range (n := k))
  intro a b ha hb hne e
  exact hne (h a b (List.mem_range.1 ha) (List.mem_range.1 hb) e)

theorem Back.nodup {g D X k} (h : Back g D X k) : (orb g D X k).Nodup := by
  rw [orb_eq]
  exact nodup_map_range fun a b ha hb e => h.inj ha hb e

theorem back_of_nodup {g D X k} (hk : 0 < k) (hr : aft g D X k = X) (hn : (orb g D X k).Nodup) : Back g D X k := by
  refine ⟨hk, hr, fun j hj hjk e => ?_⟩
  rw [orb_eq, List.nodup_iff_pairwise_ne, List.pairwise_map, List.pairwise_iff_getElem] at hn
  have := hn 0 j (by simpa using hk) (by simpa using hjk) hj
  simp at this
  exact this (by rw [e]; rfl)

theorem orb_rot {g D X k} (hr : aft g D X k = X) {a : Nat} (ha : a ≤ k) : orb g D X k = orb g D X a ++ orb g D (aft g D X a) (k - a) ∧ orb g D (aft g D X a) k = orb g D (aft g D X a) (k - a) ++ orb g D X a := by
  constructor
  · rw [← orb_add, Nat.add_sub_cancel' ha]
  · have : aft g D (aft g D X a) (k - a) = X := by rw [← aft_add, Nat.add_sub_cancel' ha, hr]
    conv => lhs; rw [show k = (k - a) + a by omega, orb_add, this]

theorem Back.kind_at {g D X k} (h : Back g D X k) (a : Nat) (ha : a ≤ k) : kindI (orb g D (aft g D X a) k) = kindI (orb g D X k) := by
  obtain ⟨e1, e2⟩ := orb_rot h.ret ha
  have hn := h.nodup
  rw [e1] at hn ⊢
  rw [e2, kindI_swap _ _ hn]
theorem Back.at {g D X k} (h : Back g D X k) (a : Nat) (ha : a ≤ k) : Back g D (aft g D X a) k := by
  obtain ⟨e1, e2⟩ := orb_rot h.ret ha
  have hn := h.nodup
  refine back_of_nodup h.pos ?_ ?_
  · rw [← aft_add, Nat.add_comm, aft_add, h.ret]
  · rw [e1] at hn
    rw [e2]
    exact (List.perm_append_comm.nodup_iff).1 hn

theorem leastOf_gen (D : Nat) (hD : 0 < D) (l : List Int) (m : Int) : ∃ y, (l.map fun y => red y D).foldl (fun m x => if lt x m = true then x else m) (red m D) = red y D ∧ y ∈ m :: l ∧ ∀ z ∈ m :: l, y ≤ z := by
  induction l generalizing m with
  | nil => exact ⟨m, rfl, by simp, by simp⟩
  | cons x l ih =>
    rw [List.map_cons, List.foldl_cons, lt_red hD]
    by_cases h : x < m
    · obtain ⟨y, e, h1, h2⟩ := ih x
      refine ⟨y, by simpa [h] using e, List.mem_cons_of_mem _ h1, fun z hz => ?_⟩
      rcases List.mem_cons.1 hz with rfl | hz
      · have := h2 x (by simp); omega
      · exact h2 z hz
    · obtain ⟨y, e, h1, h2⟩ := ih m
      refine ⟨y, by simpa [h] using e, by simp at h1 ⊢; grind, fun z hz => ?_⟩
      rcases List.mem_cons.1 hz with rfl | hz
      · exact h2 _ (by simp)
      · rcases List.mem_cons.1 hz with rfl | hz
        · have := h2 m (by simp); omega
        · exact h2 z (by simp [hz])

theorem type_red (g : Abs) (D : Nat) (hD : 0 < D) (X : Int) (k : Nat) : g.type (red X D) k = ranks (orb g D X k) := by
  unfold Abs.type ranks rank
  rw [way_red g D hD, List.map_map]
  apply List.map_congr_left
  intro y hy
  simp only [Function.comp, List.filter_map, List.length_map]
  congr 1
  apply List.filter_congr
  intro x hx
  simp [lt_red hD]

/-- the type that is told of a round is the kind of its places -/
theorem type_least (g : Abs) (D : Nat) (hD : 0 < D) (X : Int) (k : Nat) (h : Back g D X k) : g.type (leastOf (g.way (red X D) k)) k = kindI (orb g D X k) := by
  have hk := h.pos
  obtain ⟨j, rfl⟩ : ∃ j, k = j + 1 := ⟨k - 1, by omega⟩
  obtain ⟨y, e, hy, hl⟩ := leastOf_gen D hD (orb g D X (j + 1)) X
  have hsub : ∀ z, z ∈ X :: orb g D X (j + 1) ↔ z ∈ orb g D X (j + 1) := fun z => by simp [orb]
  have e' : leastOf (g.way (red X D) (j + 1)) = red y D := by
    unfold leastOf
    rw [way_red g D hD]
    exact e
  rw [e', type_red g D hD]
  rw [hsub] at hy
  rw [orb_eq, List.mem_map] at hy
  obtain ⟨a, ha, rfl⟩ := hy
  have ha := List.mem_range.1 ha
  rw [← h.kind_at a (by omega)]
  have hb := h.at a (by omega)
  have hn := hb.nodup
  have hl' : ∀ z ∈ orb g D (aft g D X a) (j + 1), aft g D X a ≤ z := by
    intro z hz
    apply hl z
    rw [hsub]
    obtain ⟨e1, e2⟩ := orb_rot (a := a) h.ret (by omega)
    rw [e2] at hz
    rw [e1]
    simp at hz ⊢
    grind
  generalize aft g D X a = Y at *
  have := kindI_least [] (orb g D (stepD g D Y) j) Y hn hl'
  rw [List.append_nil] at this
  exact this.symm
end Rt

namespace Rt
open Su183

theorem nat_mul_one {a b : Nat} (h : a * b = 1) : a = 1 ∧ b = 1 := by
  have ha : a ∣ 1 := ⟨b, h.symm⟩
  have ha := Nat.dvd_one.1 ha
  subst ha
  exact ⟨rfl, by omega⟩

structure Cyc (g : Abs) : Prop where
  pos : 1 ≤ g.n
  le : ∀ i, i ≤ g.n → g.point i ≤ g.n
  back : Back g 1 0 (g.n + 1)
  all : ∀ r : Nat, r ≤ g.n → ∃ m, m ≤ g.n ∧ aft g 1 0 m = (r : Int)

theorem stepD_int (g : Abs) (hn : 1 ≤ g.n) (r : Nat) (hr : r ≤ g.n) : stepD g 1 (r : Int) = (g.point r : Int) := by
  by_cases h : r < g.n
  · rw [stepD_inside g 1 (by omega) r _ h (by omega) (by omega), aff_lo]; grind
  · have hr' : r = (r - 1) + 1 := by omega
    rw [stepD_inside g 1 (by omega) (r - 1) _ (by omega) (by omega) (by omega), aff_hi, ← hr']
    have : ((r - 1 : Nat) : Int) + 1 = (r : Int) := by omega
    rw [this]; grind

theorem Back.uniq {g D X k k'} (h : Back g D X k) (h' : Back g D X k') : k = k' := by
  rcases Nat.lt_trichotomy k k' with h1 | h1 | h1
  · exact (h'.first k h.pos h1 h.ret).elim
  · exact h1
  · exact (h.first k' h'.pos h1 h'.ret).elim

theorem Cyc.at {g} (c : Cyc g) (r : Nat) (hr : r ≤ g.n) : Back g 1 (r : Int) (g.n + 1) := by
  obtain ⟨m, hm, e⟩ := c.all r hr
  rw [← e]
  exact c.back.at m (by omega)
theorem Cyc.kind {g} (c : Cyc g) (r : Nat) (hr : r ≤ g.n) : kindI (orb g 1 (r : Int) (g.n + 1)) = kindI (orb g 1 0 (g.n + 1)) := by
  obtain ⟨m, hm, e⟩ := c.all r hr
  rw [← e]
  exact c.back.kind_at m (by omega)
theorem Cyc.inj {g} (c : Cyc g) (i j : Nat) (hi : i ≤ g.n) (hj : j ≤ g.n) (h : g.point i = g.point j) : i = j := by
  have hs : stepD g 1 (i : Int) = stepD g 1 (j : Int) := by rw [stepD_int g c.pos i hi, stepD_int g c.pos j hj, h]
  have h1 := (c.at i hi).ret
  have h2 := (c.at j hj).ret
  have : aft g 1 (i : Int) (g.n + 1) = aft g 1 (j : Int) (g.n + 1) := by
    show aft g 1 (stepD g 1 (i : Int)) g.n = aft g 1 (stepD g 1 (j : Int)) g.n
    rw [hs]
  omega
theorem Cyc.cover_lt {g} (c : Cyc g) {i j : Nat} (hi : i < g.n) (h : g.covers i j = true) : j < g.n := by
  rw [covers_iff] at h
  have := c.le i (by omega)
  have := c.le (i + 1) (by omega)
  omega

def progX (g : Abs) (w : List Nat) : Int := if (g.along w).1 = 1 then (w.headD 0 : Int) else if (g.along w).1 < 1 then (g.along w).2 else -(g.along w).2
def progD (g : Abs) (w : List Nat) : Nat := if (g.along w).1 = 1 then 1 else (1 - (g.along w).1).natAbs
def progPlaces (g : Abs) (w : List Nat) : List Int := places g (progD g w) w (progX g w)

/-- what the program finds: a way from its least piece back to it, whose places are all different -/
def prog (g : Abs) (k : Nat) (u : List Nat) : Prop :=
  ∃ w : List Nat, w.length = k ∧ 0 < k ∧ pathTo g w (w.headD 0) ∧ (∀ i ∈ w, i < g.n ∧ w.headD 0 ≤ i) ∧ (progPlaces g w).Nodup ∧ kindI (progPlaces g w) = u

theorem progD_pos (g : Abs) (w : List Nat) : 0 < progD g w := by
  unfold progD
  split
  · omega
  · omega

theorem fix_iff (g : Abs) (w : List Nat) (h : (g.along w).1 ≠ 1) (Y : Int) : run g (progD g w) w Y = Y ↔ Y = progX g w := by
  rw [run_along]
  unfold progD progX
  rw [if_neg h, if_neg h]
  generalize (g.along w).1 = a at *
  generalize (g.along w).2 = b at *
  by_cases h1 : a < 1
  · rw [if_pos h1]
    have : (((1 - a).natAbs : Nat) : Int) = 1 - a := by omega
    rw [this]
    constructor
    · intro e
      have : (1 - a) * Y = (1 - a) * b := by grind
      exact Int.eq_of_mul_eq_mul_left (by omega) this
    · rintro rfl; grind
  · rw [if_neg h1]
    have : (((1 - a).natAbs : Nat) : Int) = a - 1 := by omega
    rw [this]
    constructor
    · intro e
      have : (a - 1) * Y = (a - 1) * (-b) := by grind
      exact Int.eq_of_mul_eq_mul_left (by omega) this
    · rintro rfl; grind

theorem ends (g : Abs) (w : List Nat) (t : Nat) : pathTo g w t → (sprod g w).natAbs = 1 →
    (sprod g w = 1 ∧ run g 1 w (w.headD t : Int) = (t : Int) ∧ run g 1 w ((w.headD t : Int) + 1) = (t : Int) + 1) ∨
    (sprod g w = -1 ∧ run g 1 w (w.headD t : Int) = (t : Int) + 1 ∧ run g 1 w ((w.headD t : Int) + 1) = (t : Int)) := by
  induction w with
  | nil => intro _ _; exact .inl ⟨rfl, rfl, rfl⟩
  | cons i w ih =>
    intro hp hs
    simp only [sprod, Int.natAbs_mul] at hs
    replace hs := nat_mul_one hs
    have hc := (covers_iff g _ _).1 hp.1
    have hsl : g.slope i = (g.point (i + 1) : Int) - (g.point i : Int) := rfl
    have h0 : aff g 1 i (i : Int) = (g.point i : Int) := by rw [aff_lo]; grind
    have h1 : aff g 1 i ((i : Int) + 1) = (g.point (i + 1) : Int) := by rw [aff_hi]; grind
    simp only [List.headD_cons, run, sprod, h0, h1]
    rcases ih hp.2 hs.2 with ⟨a, b, c⟩ | ⟨a, b, c⟩
    · rcases Int.natAbs_eq (g.slope i) with hh | hh
      · rw [hs.1] at hh
        have e0 : (g.point i : Int) = (w.headD t : Int) := by omega
        have e1 : (g.point (i + 1) : Int) = (w.headD t : Int) + 1 := by omega
        rw [e0, e1, a, b, c]
        exact .inl ⟨by omega, rfl, rfl⟩
      · rw [hs.1] at hh
        have e0 : (g.point i : Int) = (w.headD t : Int) + 1 := by omega
        have e1 : (g.point (i + 1) : Int) = (w.headD t : Int) := by omega
        rw [e0, e1, a, b, c]
        exact .inr ⟨by omega, rfl, rfl⟩
    · rcases Int.natAbs_eq (g.slope i) with hh | hh
      · rw [hs.1] at hh
        have e0 : (g.point i : Int) = (w.headD t : Int) := by omega
        have e1 : (g.point (i + 1) : Int) = (w.headD t : Int) + 1 := by omega
        rw [e0, e1, a, b, c]
        exact .inr ⟨by omega, rfl, rfl⟩
      · rw [hs.1] at hh
        have e0 : (g.point i : Int) = (w.headD t : Int) + 1 := by omega
        have e1 : (g.point (i + 1) : Int) = (w.headD t : Int) := by omega
        rw [e0, e1, a, b, c]
        exact .inl ⟨by omega, rfl, rfl⟩

theorem mem_loops (g : Abs) (i : Nat) : ∀ (k j : Nat) (w : List Nat), w ∈ g.loopsFrom i j (k + 1) ↔ ∃ w', w = j :: w' ∧ w'.length = k ∧ pathTo g w i ∧ ∀ l ∈ w', l < g.n
  | 0, j, w => by
    unfold Abs.loopsFrom
    constructor
    · intro h
      split at h
      · rename_i hc
        rw [List.mem_singleton] at h
        exact ⟨[], h, rfl, by rw [h]; exact ⟨hc, trivial⟩, by simp⟩
      · simp at h
    · rintro ⟨w', rfl, hl, hp, -⟩
      have := List.length_eq_zero_iff.1 hl
      subst this
      have hc : g.covers j i = true := hp.1
      simp [hc]
  | k + 1, j, w => by
    unfold Abs.loopsFrom
    simp only [List.mem_flatMap, List.mem_filter, List.mem_range, List.mem_map]
    constructor
    · rintro ⟨l, ⟨hl, hc⟩, v, hv, rfl⟩
      obtain ⟨v', rfl, h2, h3, h4⟩ := (mem_loops g i k l v).1 hv
      refine ⟨l :: v', rfl, by simp [h2], ⟨hc, h3⟩, ?_⟩
      intro m hm
      rcases List.mem_cons.1 hm with rfl | hm
      · exact hl
      · exact h4 m hm
    · rintro ⟨w', rfl, hl, hp, hn⟩
      match w', hl with
      | l :: v', hl =>
        refine ⟨l, ⟨hn l (by simp), hp.1⟩, l :: v', (mem_loops g i k l _).2 ⟨v', rfl, by simpa using hl, hp.2, fun m hm => hn m (by simp [hm])⟩, rfl⟩

theorem mem_found (g : Abs) (k : Nat) (x : Frac) : x ∈ g.found k ↔ ((∃ r, r ≤ g.n ∧ x = red (r : Int) 1) ∨ ∃ i, i < g.n ∧ ∃ w ∈ g.loopsFrom i i k, x ∈ g.given w) ∧ g.back x k = true := by
  unfold Abs.found
  simp only [List.mem_filter, List.mem_append, List.mem_map, List.mem_range, List.mem_flatMap]
  constructor
  · rintro ⟨h | h, hb⟩
    · obtain ⟨r, hr, rfl⟩ := h
      exact ⟨.inl ⟨r, by omega, ofNat_red r⟩, hb⟩
    · exact ⟨.inr h, hb⟩
  · rintro ⟨h | h, hb⟩
    · obtain ⟨r, hr, rfl⟩ := h
      exact ⟨.inl ⟨r, by omega, ofNat_red r⟩, hb⟩
    · exact ⟨.inr h, hb⟩

theorem mem_given (g : Abs) (w : List Nat) (x : Frac) : x ∈ g.given w ↔ ((g.along w).1 = 1 ∧ (g.along w).2 = 0 ∧ x = red (3 * (w.headD 0 : Int) + 1) 3) ∨ ((g.along w).1 ≠ 1 ∧ x = red (progX g w) (progD g w) ∧ g.goes x w = true) := by
  unfold Abs.given progX progD
  dsimp only
  generalize (g.along w).1 = a
  generalize (g.along w).2 = b
  by_cases h : a = 1
  · simp only [if_pos h]
    by_cases h2 : b = 0
    · simp [h, h2]
    · simp [h, h2]
  · simp only [if_neg h]
    have hx : (if a < 1 then red b (1 - a).toNat else red (-b) (a - 1).toNat) = red (if a < 1 then b else -b) (1 - a).natAbs := by
      by_cases h1 : a < 1
      · rw [if_pos h1, if_pos h1]
        congr 1; omega
      · rw [if_neg h1, if_neg h1]
        congr 1; omega
    rw [hx]
    by_cases h3 : g.goes (red (if a < 1 then b else -b) (1 - a).natAbs) w = true
    · rw [if_pos h3]
      simp only [List.mem_singleton]
      constructor
      · rintro rfl; exact .inr ⟨h, rfl, h3⟩
      · rintro (⟨h4, -⟩ | ⟨-, h4, -⟩)
        · exact absurd h4 h
        · exact h4
    · rw [if_neg h3]
      constructor
      · intro h4; simp at h4
      · rintro (⟨h4, -⟩ | ⟨-, rfl, h4⟩)
        · exact absurd h4 h
        · exact absurd h4 h3

theorem prog_spec (g : Abs) (k : Nat) (u : List Nat) (h : prog g k u) : ∃ x ∈ g.found k, g.type (leastOf (g.way x k)) k = u := by
  obtain ⟨w, hl, hk, hp, hw, hn, rfl⟩ := h
  match w, hl with
  | [], hl => simp at hl; omega
  | i :: w, hl =>
    have hwn : ∀ j ∈ i :: w, j < g.n := fun j hj => (hw j hj).1
    have hi := hwn i (by simp)
    simp only [List.headD_cons] at hp
    have hmem : i :: w ∈ g.loopsFrom i i k := by
      obtain ⟨j, rfl⟩ : ∃ j, k = j + 1 := ⟨k - 1, by omega⟩
      exact (mem_loops g i j i _).2 ⟨w, rfl, by simpa using hl, hp, fun l hl => hwn l (by simp [hl])⟩
    by_cases h1 : (g.along (i :: w)).1 = 1
    · have hX : progX g (i :: w) = (i : Int) := by unfold progX; rw [if_pos h1]; rfl
      have hD : progD g (i :: w) = 1 := by unfold progD; rw [if_pos h1]
      unfold progPlaces at hn ⊢
      rw [hX, hD] at hn ⊢
      have hs : sprod g (i :: w) = 1 := by rw [← along_fst, h1]
      have he := ends g (i :: w) i hp (by rw [hs]; rfl)
      have hr : run g 1 (i :: w) (i : Int) = (i : Int) := by
        rcases he with ⟨a, b, _⟩ | ⟨a, _⟩
        · exact b
        · omega
      have hin : inside g 1 (i :: w) (i : Int) := inside_of_end g 1 (by omega) _ i _ hp (by omega) (by omega)
      obtain ⟨o1, o2⟩ := orb_inside g 1 (by omega) (i :: w) (i : Int) hwn hin
      rw [hl] at o1 o2
      rw [hr] at o2
      have hn' : (orb g 1 (i : Int) k).Nodup := by rw [o1]; exact hn
      have hb := back_of_nodup hk o2 hn'
      refine ⟨red (i : Int) 1, (mem_found g k _).2 ⟨.inl ⟨i, by omega, rfl⟩, (back_red g 1 (by omega) k _).2 ⟨hb.pos, hb.ret, hb.first⟩⟩, ?_⟩
      have := type_least g 1 (by omega) (i : Int) k hb
      rw [this]
      show kindI (orb g 1 (i : Int) k) = _
      rw [o1]; rfl
    · have hD := progD_pos g (i :: w)
      unfold progPlaces at hn ⊢
      have hr := (fix_iff g (i :: w) h1 _).2 rfl
      have hDi : (0 : Int) < (progD g (i :: w) : Int) := by omega
      have hin := inside_of_loop g _ hDi i w _ hp (by rw [← along_fst]; exact h1) hr
      obtain ⟨o1, o2⟩ := orb_inside g _ hDi (i :: w) _ hwn hin
      rw [hl] at o1 o2
      rw [hr] at o2
      have hn' := hn
      rw [← o1] at hn'
      have hb := back_of_nodup hk o2 hn'
      refine ⟨red (progX g (i :: w)) (progD g (i :: w)), (mem_found g k _).2 ⟨.inr ⟨i, hi, i :: w, hmem, (mem_given g _ _).2 (.inr ⟨h1, rfl, (goes_red g _ hD _ _ hwn).2 hin⟩)⟩, (back_red g _ hD k _).2 ⟨hb.pos, hb.ret, hb.first⟩⟩, ?_⟩
      rw [type_least g _ hD _ k hb, o1]

/-- the pieces beside the places of a round of whole numbers, on the one side of them -/
def germ (g : Abs) : Nat → Bool → Nat → List Nat
  | _, _, 0 => []
  | p, up, m + 1 => (if up = true then p else p - 1) :: germ g (g.point p) (if 0 < g.slope (if up = true then p else p - 1) then up else !up) m

theorem germ_ok (g : Abs) (c : Cyc g) : ∀ (m p : Nat) (up : Bool), p ≤ g.n → (up = true → p < g.n) → (up = false → 0 < p) →
    ∃ (q : Nat) (v : Bool), q ≤ g.n ∧ (v = true → q < g.n) ∧ (v = false → 0 < q) ∧ aft g 1 (p : Int) m = (q : Int) ∧
      pathTo g (germ g p up m) (if v = true then q else q - 1) ∧ (germ g p up m).length = m ∧ (∀ i ∈ germ g p up m, i < g.n) ∧
      (m = 0 → p = q ∧ up = v) ∧
      ∀ D : Int, run g D (germ g p up m) ((p : Int) * D) = (q : Int) * D ∧ places g D (germ g p up m) ((p : Int) * D) = (orb g 1 (p : Int) m).map (fun y => y * D)
  | 0, p, up, h1, h2, h3 => ⟨p, up, h1, h2, h3, rfl, trivial, rfl, by simp [germ], fun _ => ⟨rfl, rfl⟩, fun D => ⟨rfl, rfl⟩⟩
  | m + 1, p, up, h1, h2, h3 => by
    have hi : (if up = true then p else p - 1) < g.n := by
      cases up
      · simp; have := h3 rfl; omega
      · simp; exact h2 rfl
    generalize hieq : (if up = true then p else p - 1) = i at hi
    have hip : (up = true ∧ p = i) ∨ (up = false ∧ p = i + 1) := by
      cases up
      · simp at hieq; have := h3 rfl; exact .inr ⟨rfl, by omega⟩
      · simp at hieq; exact .inl ⟨rfl, hieq⟩
    have l0 := c.le i (by omega)
    have l1 := c.le (i + 1) (by omega)
    have hne : g.point i ≠ g.point (i + 1) := fun e => by have := c.inj i (i + 1) (by omega) (by omega) e; omega
    have hsl : g.slope i = (g.point (i + 1) : Int) - (g.point i : Int) := rfl
    generalize hup : (if 0 < g.slope i then up else !up) = up'
    have hst : stepD g 1 (p : Int) = (g.point p : Int) := stepD_int g c.pos p h1
    have haff : ∀ D : Int, aff g D i ((p : Int) * D) = (g.point p : Int) * D := by
      intro D
      rcases hip with ⟨_, rfl⟩ | ⟨_, rfl⟩
      · rw [aff_lo]; grind
      · rw [aff_hi]
        have : (((i + 1 : Nat)) : Int) = (i : Int) + 1 := by omega
        rw [this]; grind
    have k2 : up' = true → g.point p < g.n := by
      intro e
      rw [e] at hup
      rcases hip with ⟨rfl, rfl⟩ | ⟨rfl, rfl⟩
      · by_cases hs : 0 < g.slope p
        · omega
        · rw [if_neg hs] at hup; simp at hup
      · by_cases hs : 0 < g.slope i
        · rw [if_pos hs] at hup; simp at hup
        · omega
    have k3 : up' = false → 0 < g.point p := by
      intro e
      rw [e] at hup
      rcases hip with ⟨rfl, rfl⟩ | ⟨rfl, rfl⟩
      · by_cases hs : 0 < g.slope p
        · rw [if_pos hs] at hup; simp at hup
        · omega
      · by_cases hs : 0 < g.slope i
        · omega
        · rw [if_neg hs] at hup; simp at hup
    obtain ⟨q, v, a1, a2, a3, a4, a5, a6, a7, a8, a9⟩ := germ_ok g c m (g.point p) up' (c.le p h1) k2 k3
    have hg : germ g p up (m + 1) = i :: germ g (g.point p) up' m := by
      show (if up = true then p else p - 1) :: _ = _
      rw [hieq, hup]
    have hcov : g.covers i (if up' = true then g.point p else g.point p - 1) = true := by
      rw [covers_iff]
      rcases hip with ⟨rfl, rfl⟩ | ⟨rfl, rfl⟩
      · by_cases hs : 0 < g.slope p
        · rw [if_pos hs] at hup; subst hup; simp; omega
        · rw [if_neg hs] at hup; subst hup; simp; omega
      · by_cases hs : 0 < g.slope i
        · rw [if_pos hs] at hup; subst hup; simp; omega
        · rw [if_neg hs] at hup; subst hup; simp; omega
    refine ⟨q, v, a1, a2, a3, ?_, ?_, ?_, ?_, ?_, ?_⟩
    · show aft g 1 (stepD g 1 (p : Int)) m = _
      rw [hst, a4]
    · rw [hg]
      refine ⟨?_, a5⟩
      cases m with
      | zero =>
        obtain ⟨b1, b2⟩ := a8 rfl
        rw [← b1, ← b2]
        exact hcov
      | succ m => exact hcov
    · rw [hg]; simp [a6]
    · rw [hg]; intro j hj
      rcases List.mem_cons.1 hj with rfl | hj
      · exact hi
      · exact a7 j hj
    · intro h; omega
    · intro D
      rw [hg]
      simp only [run, places, orb, haff, hst, List.map_cons]
      exact ⟨(a9 D).1, by rw [(a9 D).2]⟩

theorem prog_self (g : Abs) (c : Cyc g) : prog g (g.n + 1) (kindI (orb g 1 0 (g.n + 1))) := by
  have hpos := c.pos
  obtain ⟨q, v, a1, a2, a3, a4, a5, a6, a7, a8, a9⟩ := germ_ok g c (g.n + 1) 0 true (by omega) (fun _ => by omega) (fun h => by simp at h)
  have hret := c.back.ret
  have hq : q = 0 := by
    have : aft g 1 ((0 : Nat) : Int) (g.n + 1) = 0 := hret
    rw [a4] at this; omega
  subst hq
  have hv : v = true := by
    cases v
    · have := a3 rfl; omega
    · rfl
  subst hv
  have hhead : (germ g 0 true (g.n + 1)).headD 0 = 0 := rfl
  generalize germ g 0 true (g.n + 1) = w at *
  simp only [if_pos] at a5
  have e0 : ∀ D : Int, ((0 : Nat) : Int) * D = 0 := fun D => by simp
  have hX : progX g w = 0 := by
    unfold progX
    have := (a9 1).1
    rw [e0, run_along] at this
    simp at this
    rw [hhead, this]
    simp
  have hD := progD_pos g w
  have hpl : progPlaces g w = (orb g 1 0 (g.n + 1)).map (fun y => y * (progD g w : Int)) := by
    unfold progPlaces
    rw [hX]
    have := (a9 (progD g w)).2
    rw [e0] at this
    exact this
  have hmono : ∀ x y : Int, x * (progD g w : Int) < y * (progD g w : Int) ↔ x < y := by
    intro x y
    constructor
    · intro h; exact Int.lt_of_mul_lt_mul_right h (by omega)
    · intro h; exact Int.mul_lt_mul_of_pos_right h (by omega)
  refine ⟨w, a6, by omega, by rw [hhead]; exact a5, fun i hi => ⟨a7 i hi, by rw [hhead]; omega⟩, ?_, ?_⟩
  · rw [hpl, List.nodup_iff_pairwise_ne, List.pairwise_map]
    apply List.Pairwise.imp _ c.back.nodup
    intro a b hab e
    have := hmono a b
    have := hmono b a
    omega
  · rw [hpl]
    exact kindI_map _ _ fun x _ y _ => hmono x y

theorem exists_min_split : ∀ (w : List Nat), w ≠ [] → ∃ p j q, w = p ++ j :: q ∧ ∀ i ∈ w, j ≤ i
  | [], h => absurd rfl h
  | [x], _ => ⟨[], x, [], rfl, by simp⟩
  | x :: y :: l, _ => by
    obtain ⟨p, j, q, e, h⟩ := exists_min_split (y :: l) (by simp)
    by_cases hx : x ≤ j
    · refine ⟨[], x, y :: l, rfl, fun i hi => ?_⟩
      rcases List.mem_cons.1 hi with rfl | hi
      · omega
      · have := h i hi; omega
    · refine ⟨x :: p, j, q, by rw [e]; rfl, fun i hi => ?_⟩
      rcases List.mem_cons.1 hi with rfl | hi
      · omega
      · exact h i hi

theorem aft_mod {g D X K} (h : aft g D X K = X) (q r : Nat) : aft g D X (q * K + r) = aft g D X r := by
  induction q with
  | zero => simp
  | succ q ih =>
    rw [show (q + 1) * K + r = K + (q * K + r) by grind, aft_add, h, ih]

def near (X : Int) : Int := (X + 1) / 3

theorem thirds (g : Abs) (w : List Nat) (t : Nat) : ∀ X : Int, pathTo g w t → (sprod g w).natAbs = 1 →
    (X = 3 * (w.headD t : Int) + 1 ∨ X = 3 * (w.headD t : Int) + 2) →
    (run g 3 w X = 3 * (t : Int) + 1 ∨ run g 3 w X = 3 * (t : Int) + 2) ∧
    (places g 3 w X).map near = places g 1 w (near X) ∧ ∀ Y ∈ places g 3 w X, 0 ≤ Y ∧ Y % 3 ≠ 0 := by
  induction w with
  | nil => intro X _ _ h; exact ⟨h, rfl, by simp [places]⟩
  | cons i w ih =>
    intro X hp hs hX
    simp only [sprod, Int.natAbs_mul] at hs
    replace hs := nat_mul_one hs
    have hc := (covers_iff g _ _).1 hp.1
    have hsl : g.slope i = (g.point (i + 1) : Int) - (g.point i : Int) := rfl
    simp only [List.headD_cons] at hX
    have hb : g.slope i = 1 ∨ g.slope i = -1 := by omega
    have key : (aff g 3 i X = 3 * (w.headD t : Int) + 1 ∨ aff g 3 i X = 3 * (w.headD t : Int) + 2) ∧ near (aff g 3 i X) = aff g 1 i (near X) := by
      unfold near
      rcases hb with hb | hb
      · have e0 : (g.point i : Int) = (w.headD t : Int) := by omega
        rw [aff_lo, aff_lo, hb, e0]
        omega
      · have e0 : (g.point i : Int) = (w.headD t : Int) + 1 := by omega
        rw [aff_lo, aff_lo, hb, e0]
        omega
    obtain ⟨b1, b2, b3⟩ := ih (aff g 3 i X) hp.2 hs.2 key.1
    refine ⟨b1, ?_, ?_⟩
    · simp only [places, List.map_cons, b2, key.2]
    · intro Y hY
      rcases List.mem_cons.1 hY with rfl | hY
      · omega
      · exact b3 Y hY

theorem spec_prog (g : Abs) (c : Cyc g) (k : Nat) (u : List Nat) (h : ∃ x ∈ g.found k, g.type (leastOf (g.way x k)) k = u) : prog g k u := by
  obtain ⟨x, hx, rfl⟩ := h
  obtain ⟨hx, hb⟩ := (mem_found g k x).1 hx
  rcases hx with ⟨r, hr, rfl⟩ | ⟨i, hi, w, hw, hx⟩
  · obtain ⟨b1, b2, b3⟩ := (back_red g 1 (by omega) k _).1 hb
    have hb : Back g 1 (r : Int) k := ⟨b1, b2, b3⟩
    have hk := hb.uniq (c.at r hr)
    rw [type_least g 1 (by omega) _ k hb]
    subst hk
    show prog g (g.n + 1) (kindI (orb g 1 (r : Int) (g.n + 1)))
    rw [c.kind r hr]
    exact prog_self g c
  · have hk : 0 < k := by
      unfold Abs.back at hb
      simp at hb
      exact hb.1
    obtain ⟨m, rfl⟩ : ∃ m, k = m + 1 := ⟨k - 1, by omega⟩
    obtain ⟨w', rfl, hl, hp, hn⟩ := (mem_loops g i m i w).1 hw
    have hwn : ∀ j ∈ i :: w', j < g.n := by
      intro j hj
      rcases List.mem_cons.1 hj with rfl | hj
      · exact hi
      · exact hn j hj
    have hlen : (i :: w').length = m + 1 := by simp [hl]
    generalize hwe : i :: w' = w at *
    have hhead : w.headD 0 = i := by rw [← hwe]; rfl
    have hheadi : w.headD i = i := by rw [← hwe]; rfl
    rcases (mem_given g w x).1 hx with ⟨h1, h2, rfl⟩ | ⟨h1, rfl, hg⟩
    · obtain ⟨b1, b2, b3⟩ := (back_red g 3 (by omega) _ _).1 hb
      have hb : Back g 3 (3 * (i : Int) + 1) (m + 1) := by rw [hhead] at b2 b3; exact ⟨b1, b2, b3⟩
      rw [hhead, type_least g 3 (by omega) _ _ hb]
      have hs : sprod g w = 1 := by rw [← along_fst, h1]
      obtain ⟨t1, t2, t3⟩ := thirds g w i (3 * (i : Int) + 1) hp (by rw [hs]; rfl) (.inl (by rw [hheadi]))
      have hin3 : inside g 3 w (3 * (i : Int) + 1) := inside_of_end g 3 (by omega) _ i _ hp (by omega) (by omega)
      obtain ⟨o1, o2⟩ := orb_inside g 3 (by omega) w _ hwn hin3
      have hnear : near (3 * (i : Int) + 1) = (i : Int) := by unfold near; omega
      rw [hnear] at t2
      have he := ends g w i hp (by rw [hs]; rfl)
      have hr1 : run g 1 w (i : Int) = (i : Int) := by
        rcases he with ⟨a, b, _⟩ | ⟨a, _⟩
        · rw [hheadi] at b; exact b
        · omega
      have hin1 : inside g 1 w (i : Int) := inside_of_end g 1 (by omega) _ i _ hp (by omega) (by omega)
      obtain ⟨p1, p2⟩ := orb_inside g 1 (by omega) w _ hwn hin1
      rw [hlen] at o1 o2 p1 p2
      rw [hr1] at p2
      have hmap : (orb g 3 (3 * (i : Int) + 1) (m + 1)).map near = orb g 1 (i : Int) (m + 1) := by rw [o1, p1, t2]
      have hall : ∀ Y ∈ orb g 3 (3 * (i : Int) + 1) (m + 1), 0 ≤ Y ∧ Y % 3 ≠ 0 := by rw [o1]; exact t3
      have B := c.at i (by omega)
      have hkn : m + 1 = g.n + 1 := by
        have hmod : aft g 1 (i : Int) ((m + 1) % (g.n + 1)) = (i : Int) := by
          have := aft_mod B.ret ((m + 1) / (g.n + 1)) ((m + 1) % (g.n + 1))
          rw [Nat.mul_comm, Nat.div_add_mod, p2] at this
          exact this.symm
        have hm0 : (m + 1) % (g.n + 1) = 0 := by
          rcases Nat.eq_zero_or_pos ((m + 1) % (g.n + 1)) with h | h
          · exact h
          · exact (B.first _ h (Nat.mod_lt _ (by omega)) hmod).elim
        obtain ⟨q, hq⟩ := Nat.dvd_of_mod_eq_zero hm0
        match q, hq with
        | 0, hq => simp at hq
        | 1, hq => simpa using hq
        | q + 2, hq =>
          exfalso
          have hbig : 2 * (g.n + 1) ≤ m + 1 := by
            rw [hq, Nat.mul_comm]
            exact Nat.mul_le_mul_left _ (by omega)
          -- a time at which 0 is the nearest
          obtain ⟨a, ha, ea⟩ := c.all i (by omega)
          have h0 : ∃ b, b ≤ g.n ∧ aft g 1 (i : Int) b = 0 := by
            rcases Nat.eq_zero_or_pos a with h | h
            · subst h
              exact ⟨0, by omega, by rw [← ea]; rfl⟩
            · refine ⟨g.n + 1 - a, by omega, ?_⟩
              rw [← ea, ← aft_add, Nat.add_sub_cancel' (by omega)]
              exact c.back.ret
          obtain ⟨b, hbn, eb⟩ := h0
          have eb2 : aft g 1 (i : Int) (g.n + 1 + b) = 0 := by rw [aft_add, B.ret, eb]
          have hnr : ∀ j, j < m + 1 → near (aft g 3 (3 * (i : Int) + 1) j) = aft g 1 (i : Int) j := by
            intro j hj
            have := congrArg (fun l => l[j]?) hmap
            simp only [orb_eq, List.map_map, List.getElem?_map, List.getElem?_range hj, Option.map_some, Function.comp, Option.some.injEq] at this
            exact this
          have hone : ∀ j, j < m + 1 → aft g 1 (i : Int) j = 0 → aft g 3 (3 * (i : Int) + 1) j = 1 := by
            intro j hj e
            have h4 := hnr j hj
            rw [e] at h4
            have h5 := hall (aft g 3 (3 * (i : Int) + 1) j) (by rw [orb_eq]; exact List.mem_map.2 ⟨j, List.mem_range.2 hj, rfl⟩)
            unfold near at h4
            omega
          have := hb.inj (a := b) (b := g.n + 1 + b) (by omega) (by omega) (by rw [hone b (by omega) eb, hone _ (by omega) eb2])
          omega
      rw [hkn] at hmap hb ⊢
      have hnd := B.nodup
      have : kindI (orb g 3 (3 * (i : Int) + 1) (g.n + 1)) = kindI (orb g 1 (i : Int) (g.n + 1)) := by
        rw [← hmap]
        refine (kindI_map _ near fun x hx y hy => ?_).symm
        have mono : ∀ x y : Int, x ≤ y → near x ≤ near y := fun x y h => by unfold near; omega
        constructor
        · intro h
          apply Int.not_le.1
          intro h'
          have := mono y x h'
          omega
        · intro h
          have h1 := mono x y (by omega)
          rcases Int.lt_or_eq_of_le h1 with h2 | h2
          · exact h2
          · exfalso
            rw [← hmap] at hnd
            rw [List.nodup_iff_pairwise_ne, List.pairwise_map] at hnd
            obtain ⟨a, ha, rfl⟩ := List.getElem_of_mem hx
            obtain ⟨b, hb', rfl⟩ := List.getElem_of_mem hy
            rw [List.pairwise_iff_getElem] at hnd
            rcases Nat.lt_trichotomy a b with h3 | h3 | h3
            · exact hnd a b ha hb' h3 h2
            · subst h3; omega
            · exact hnd b a hb' ha h3 h2.symm
      show prog g (g.n + 1) (kindI (orb g 3 (3 * (i : Int) + 1) (g.n + 1)))
      rw [this, c.kind i (by omega)]
      exact prog_self g c
    · have hD := progD_pos g w
      obtain ⟨b1, b2, b3⟩ := (back_red g _ hD _ _).1 hb
      have hb : Back g (progD g w) (progX g w) (m + 1) := ⟨b1, b2, b3⟩
      rw [type_least g _ hD _ _ hb]
      have hDi : (0 : Int) < (progD g w : Int) := by omega
      have hin := (goes_red g _ hD w _ hwn).1 hg
      obtain ⟨o1, o2⟩ := orb_inside g _ hDi w _ hwn hin
      rw [hlen] at o1 o2
      have hnd := hb.nodup
      rw [o1] at hnd ⊢
      have hrun := (fix_iff g w h1 _).2 rfl
      obtain ⟨p, j, q, e, hmin⟩ := exists_min_split w (by rw [← hwe]; simp)
      have hrot : ∀ D X, run g D w X = run g D (j :: q) (run g D p X) := by
        intro D X
        rw [e, run_append]
      have hpl : ∀ D X, places g D w X = places g D p X ++ places g D (j :: q) (run g D p X) := by
        intro D X
        rw [e, places_append]
      have hsp : (g.along (j :: q ++ p)).1 = (g.along w).1 := by
        rw [along_fst, along_fst, e, sprod_append, sprod_append, Int.mul_comm]
      have hDe : progD g (j :: q ++ p) = progD g w := by unfold progD; rw [hsp]
      have hback : run g (progD g w) (j :: q) (run g (progD g w) p (progX g w)) = progX g w := by rw [← hrot, hrun]
      have hXe : progX g (j :: q ++ p) = run g (progD g w) p (progX g w) := by
        refine ((fix_iff g (j :: q ++ p) (by rw [hsp]; exact h1) _).1 ?_).symm
        rw [hDe, run_append, hback]
      have hpp : progPlaces g (j :: q ++ p) = places g (progD g w) (j :: q) (run g (progD g w) p (progX g w)) ++ places g (progD g w) p (progX g w) := by
        unfold progPlaces
        rw [hDe, hXe, places_append, hback]
      rw [hpl] at hnd ⊢
      refine ⟨j :: q ++ p, ?_, hk, ?_, ?_, ?_, ?_⟩
      · rw [← hlen, e]; simp; omega
      · rw [e, pathTo_append] at hp
        have hh : p.headD j = i := by
          rw [e] at hheadi
          cases p with
          | nil => simpa using hheadi
          | cons a p => simpa using hheadi
        show pathTo g (j :: q ++ p) j
        rw [pathTo_append, hh]
        exact ⟨hp.2, hp.1⟩
      · intro l hl
        have hlw : l ∈ w := by rw [e]; simp at hl ⊢; grind
        exact ⟨hwn l hlw, hmin l hlw⟩
      · rw [hpp]
        exact (List.perm_append_comm.nodup_iff).1 hnd
      · rw [hpp, kindI_swap _ _ hnd]

theorem prog_iff (g : Abs) (c : Cyc g) (k : Nat) (u : List Nat) : prog g k u ↔ ∃ x ∈ g.found k, g.type (leastOf (g.way x k)) k = u :=
  ⟨prog_spec g k u, spec_prog g c k u⟩
end Rt

namespace Rt
open Su183

theorem nodup_len : ∀ (n : Nat) (l : List Nat), l.Nodup → (∀ x ∈ l, x < n) → l.length ≤ n
  | 0, l, _, h => by
    cases l with
    | nil => simp
    | cons a l => have := h a (by simp); omega
  | n + 1, l, hn, h => by
    have h1 := nodup_len n (l.erase n) (hn.erase n) (by
      intro x hx
      have h2 := h x (List.mem_of_mem_erase hx)
      have h3 : x ≠ n := by
        rintro rfl
        exact hn.not_mem_erase hx
      omega)
    have := List.length_erase (a := n) (l := l)
    split at this <;> omega

theorem nodup_all (l : List Nat) (hn : l.Nodup) (h : ∀ x ∈ l, x < l.length) (r : Nat) (hr : r < l.length) : r ∈ l := by
  apply Classical.byContradiction
  intro hc
  have := nodup_len l.length (r :: l) (List.nodup_cons.2 ⟨hc, hn⟩) (by
    intro x hx
    rcases List.mem_cons.1 hx with rfl | hx
    · exact hr
    · exact h x hx)
  simp at this
  omega

structure IsT (t : List Nat) : Prop where
  pos : 0 < t.length
  zero : t.getD 0 0 = 0
  nd : t.Nodup
  lt : ∀ x ∈ t, x < t.length

theorem isType_iff (t : List Nat) : Su184.isType t = true ↔ IsT t := by
  unfold Su184.isType
  simp only [Bool.and_eq_true, decide_eq_true_eq, List.all_eq_true, beq_iff_eq]
  constructor
  · rintro ⟨h1, h2, h3, h4⟩
    refine ⟨h1, ?_, h3, h4⟩
    cases t with
    | nil => rfl
    | cons a t => exact h2
  · rintro ⟨h1, h2, h3, h4⟩
    refine ⟨h1, ?_, h3, h4⟩
    cases t with
    | nil => simp at h1
    | cons a t => exact h2

theorem getD_inj {t : List Nat} (h : t.Nodup) {a b : Nat} (ha : a < t.length) (hb : b < t.length) (e : t.getD a 0 = t.getD b 0) : a = b := by
  rw [List.getD_eq_getElem?_getD, List.getD_eq_getElem?_getD, List.getElem?_eq_getElem ha, List.getElem?_eq_getElem hb] at e
  simp only [Option.getD_some] at e
  rw [List.nodup_iff_pairwise_ne, List.pairwise_iff_getElem] at h
  rcases Nat.lt_trichotomy a b with h3 | h3 | h3
  · exact (h a b ha hb h3 e).elim
  · exact h3
  · exact (h b a hb ha h3 e.symm).elim

theorem find_idx {t : List Nat} (h : t.Nodup) {m : Nat} (hm : m < t.length) : (List.range t.length).find? (fun i => t.getD i 0 == t.getD m 0) = some m := by
  rw [List.find?_range_eq_some]
  refine ⟨by simp, by simpa using hm, fun j hj => ?_⟩
  simp only [Bool.not_eq_true', beq_eq_false_iff_ne]
  intro e
  have := getD_inj h (by omega) hm e
  omega

theorem point_line {t : List Nat} (h : IsT t) {m : Nat} (hm : m < t.length) : (Su184.lineOf t).point (t.getD m 0) = t.getD (m + 1) 0 := by
  unfold Su184.lineOf Abs.point Su184.putOf
  have hr : t.getD m 0 < t.length := h.lt _ (by
    rw [List.getD_eq_getElem?_getD, List.getElem?_eq_getElem hm]; simp)
  generalize hre : t.getD m 0 = r at *
  simp only []
  rw [List.getD_eq_getElem?_getD, List.getElem?_map, List.getElem?_range hr]
  simp only [Option.map_some, Option.getD_some]
  rw [← hre, find_idx h.nd hm]
  simp only [Option.getD_some]
  have hz : t.headD 0 = 0 := by
    have := h.zero
    cases t with
    | nil => rfl
    | cons a t => exact this
  rw [hz]

theorem line_n (t : List Nat) : (Su184.lineOf t).n = t.length - 1 := rfl

theorem aft_line {t : List Nat} (h : IsT t) (h2 : 2 ≤ t.length) : ∀ m, m ≤ t.length → aft (Su184.lineOf t) 1 0 m = (t.getD m 0 : Nat)
  | 0, _ => by rw [h.zero]; rfl
  | m + 1, hm => by
    rw [aft_succ, aft_line h h2 m (by omega)]
    have hr : t.getD m 0 < t.length := h.lt _ (by
      rw [List.getD_eq_getElem?_getD, List.getElem?_eq_getElem (show m < t.length by omega)]; simp)
    rw [stepD_int _ (by rw [line_n]; omega) _ (by rw [line_n]; omega), point_line h (by omega)]

theorem cyc_line {t : List Nat} (h : IsT t) (h2 : 2 ≤ t.length) : Cyc (Su184.lineOf t) := by
  have hn : (Su184.lineOf t).n + 1 = t.length := by rw [line_n]; omega
  have hidx : ∀ r, r ≤ (Su184.lineOf t).n → ∃ m, m < t.length ∧ t.getD m 0 = r := by
    intro r hr
    have := nodup_all t h.nd h.lt r (by omega)
    obtain ⟨m, hm, e⟩ := List.getElem_of_mem this
    exact ⟨m, hm, by rw [List.getD_eq_getElem?_getD, List.getElem?_eq_getElem hm]; simpa using e⟩
  refine ⟨by omega, ?_, ?_, ?_⟩
  · intro i hi
    obtain ⟨m, hm, rfl⟩ := hidx i hi
    rw [point_line h hm]
    by_cases h3 : m + 1 < t.length
    · have := h.lt (t.getD (m + 1) 0) (by rw [List.getD_eq_getElem?_getD, List.getElem?_eq_getElem h3]; simp)
      omega
    · rw [List.getD_eq_getElem?_getD, List.getElem?_eq_none (by omega)]; simp
  · rw [hn]
    refine ⟨h.pos, ?_, ?_⟩
    · rw [aft_line h h2 _ (by omega), List.getD_eq_getElem?_getD, List.getElem?_eq_none (by omega)]; rfl
    · intro j hj hk e
      rw [aft_line h h2 _ (by omega)] at e
      have := getD_inj h.nd (a := j) (b := 0) hk h.pos (by rw [h.zero]; omega)
      omega
  · intro r hr
    obtain ⟨m, hm, e⟩ := hidx r hr
    exact ⟨m, by omega, by rw [aft_line h h2 _ (by omega), e]⟩

/-! order -/
theorem before_irrefl : ∀ a, Su184.before a a = false
  | [] => rfl
  | x :: l => by simp [Su184.before, before_irrefl l]
theorem before_trans : ∀ a b c, Su184.before a b = true → Su184.before b c = true → Su184.before a c = true
  | [], _ :: _, _ :: _, _, _ => rfl
  | [], [], _, h, _ => by simp [Su184.before] at h
  | [], _ :: _, [], _, h => by simp [Su184.before] at h
  | _ :: _, [], _, h, _ => by simp [Su184.before] at h
  | _ :: _, _ :: _, [], _, h => by simp [Su184.before] at h
  | x :: a, y :: b, z :: c, h1, h2 => by
    simp only [Su184.before, Bool.or_eq_true, Bool.and_eq_true, decide_eq_true_eq, beq_iff_eq] at h1 h2 ⊢
    rcases h1 with h1 | ⟨h1, h1'⟩ <;> rcases h2 with h2 | ⟨h2, h2'⟩
    · left; omega
    · left; omega
    · left; omega
    · right; exact ⟨by omega, before_trans a b c h1' h2'⟩
theorem before_total : ∀ a b, a ≠ b → Su184.before a b = false → Su184.before b a = true
  | [], [], h, _ => absurd rfl h
  | [], _ :: _, _, h => by simp [Su184.before] at h
  | _ :: _, [], _, _ => rfl
  | x :: a, y :: b, hne, h => by
    simp only [Su184.before, Bool.or_eq_true, Bool.and_eq_true, decide_eq_true_eq, beq_iff_eq, Bool.or_eq_false_iff, Bool.and_eq_false_iff, decide_eq_false_iff_not, beq_eq_false_iff_ne] at h ⊢
    by_cases hx : x = y
    · right
      refine ⟨hx.symm, before_total a b (fun e => hne (by rw [hx, e])) ?_⟩
      rcases h.2 with h3 | h3
      · exact absurd hx h3
      · exact h3
    · left; omega

abbrev Srt (l : List (List Nat)) : Prop := l.Pairwise fun a b => Su184.before a b = true

theorem mem_insert (x : List Nat) : ∀ (l : List (List Nat)) (y : List Nat), y ∈ Su184.insert_ x l ↔ y = x ∨ y ∈ l
  | [], y => by simp [Su184.insert_]
  | z :: l, y => by
    unfold Su184.insert_
    by_cases h : x = z
    · rw [if_pos h]; simp [h]
    · rw [if_neg h]
      by_cases h2 : Su184.before x z = true
      · rw [if_pos h2]; simp
      · rw [if_neg h2, List.mem_cons, mem_insert x l, List.mem_cons]
        grind
theorem srt_insert (x : List Nat) : ∀ (l : List (List Nat)), Srt l → Srt (Su184.insert_ x l)
  | [], _ => by simp [Su184.insert_, Srt]
  | z :: l, hs => by
    unfold Su184.insert_
    have hs' := List.pairwise_cons.1 hs
    by_cases h : x = z
    · rw [if_pos h]; exact hs
    · rw [if_neg h]
      by_cases h2 : Su184.before x z = true
      · rw [if_pos h2]
        refine List.pairwise_cons.2 ⟨fun y hy => ?_, hs⟩
        rcases List.mem_cons.1 hy with rfl | hy
        · exact h2
        · exact before_trans _ _ _ h2 (hs'.1 y hy)
      · rw [if_neg h2]
        refine List.pairwise_cons.2 ⟨fun y hy => ?_, srt_insert x l hs'.2⟩
        rcases (mem_insert x l y).1 hy with rfl | hy
        · exact before_total _ _ h (by simpa using h2)
        · exact hs'.1 y hy
theorem fold_insert (l : List (List Nat)) : ∀ (s : List (List Nat)), Srt s → Srt (l.foldl (fun s t => Su184.insert_ t s) s) ∧ ∀ y, y ∈ l.foldl (fun s t => Su184.insert_ t s) s ↔ y ∈ l ∨ y ∈ s := by
  induction l with
  | nil => intro s hs; exact ⟨hs, by simp⟩
  | cons x l ih =>
    intro s hs
    obtain ⟨a, b⟩ := ih _ (srt_insert x s hs)
    refine ⟨a, fun y => ?_⟩
    rw [List.foldl_cons, b, mem_insert, List.mem_cons]
    grind

theorem srt_eq (l m : List (List Nat)) (hl : Srt l) (hm : Srt m) (h : ∀ y, y ∈ l ↔ y ∈ m) : l = m := by
  have nd : ∀ k : List (List Nat), Srt k → k.Nodup := by
    intro k hk
    rw [List.nodup_iff_pairwise_ne]
    apply hk.imp
    intro a b hab e
    rw [e, before_irrefl] at hab
    cases hab
  refine List.Perm.eq_of_pairwise (le := fun a b => Su184.before a b = true) ?_ hl hm ?_
  · intro a b _ _ h1 h2
    have := before_trans a b a h1 h2
    rw [before_irrefl] at this
    cases this
  · exact (List.perm_ext_iff_of_nodup (nd l hl) (nd m hm)).2 h

/-- **what the program finds, in order, are the types that are told** -/
theorem types_eq {t : List Nat} (h : IsT t) (h2 : 2 ≤ t.length) (k : Nat) (l : List (List Nat)) (hs : Srt l) (hm : ∀ u, u ∈ l ↔ prog (Su184.lineOf t) k u) : l = Su184.types t k := by
  unfold Su184.types
  rw [if_neg (by omega)]
  unfold Su184.typesIn
  obtain ⟨a, b⟩ := fold_insert (((Su184.lineOf t).found k).map fun x => (Su184.lineOf t).type (Su183.leastOf ((Su184.lineOf t).way x k)) k) [] List.Pairwise.nil
  refine srt_eq _ _ hs a fun y => ?_
  rw [b, hm, prog_iff _ (cyc_line h h2), List.mem_map]
  simp
end Rt

set_option Elab.async false
set_option maxRecDepth 100000
set_option maxHeartbeats 4000000
namespace RtR
open PySem PySem.Spec PyProof.Rows L2

/-! len(set(xs)) of whole numbers: as many as there are if they are all different, else fewer -/
theorem firstMet_inv (f : Nat → Int) : ∀ i, (firstMet f i).length = i → ((List.range i).map f).Nodup
  | 0, _ => by simp
  | i + 1, h => by
    rw [firstMet_succ] at h
    unfold step_dedup at h
    have hle := firstMet_length_le f i
    by_cases c : (firstMet f i).any (· == f i) = true
    · rw [if_pos c] at h
      omega
    · rw [if_neg c, List.length_append, List.length_singleton] at h
      have ih := firstMet_inv f i (by omega)
      rw [firstMet_any] at c
      rw [List.range_succ, List.map_append, List.nodup_append]
      refine ⟨ih, by simp, ?_⟩
      intro a ha b hb e
      simp only [List.map_cons, List.map_nil, List.mem_singleton] at hb
      exact c (List.any_eq_true.2 ⟨a, ha, beq_iff_eq.2 (e.trans hb)⟩)
theorem range_getD (ns : List Int) : (List.range ns.length).map (fun i => ns.getD i 0) = ns := by
  apply List.ext_getElem
  · simp
  · intro i h1 h2
    simp [List.getElem?_eq_getElem h2]
theorem firstMet_iff (ns : List Int) : (firstMet (fun i => ns.getD i 0) ns.length).length = ns.length ↔ ns.Nodup := by
  constructor
  · intro h
    have := firstMet_inv _ _ h
    rwa [range_getD] at this
  · intro h
    rw [firstMet_nodup ns h ns.length (Nat.le_refl _), List.take_length]
section
variable {X : Cx}
def tLenSetN (K : PySem.W.Frag) (ta : TE) : TE := fun σ H Q => ta σ H fun x H1 => ∃ (l : Addr) (ns : List Int), x = V.ref l ∧ SqL K H1 l (ns.map V.int) ∧ ns.length < 64 ∧ ∀ n : Nat, (n = ns.length ↔ ns.Nodup) → Q (.int n) H1
theorem pe_lenSetN {e : Expr} {te : TE} {p1 p2 p3 p4 : Pos} (calm : X.calm = true) (gL : Gl X "len") (mL : X.mg "len" = none) (gS : Gl X "set") (mS : X.mg "set" = none) (he : PE X e te)
    (one : starEach [e] X.env = (false, eval e X.env) :: starEach [] X.env := by rfl) : PE X (.Call (.Name "len" p1) [.Call (.Name "set" p2) [e] [] p3] [] p4) (tLenSetN X.K te) := by
  constructor
  intro pins s σ H Q J goal
  refine Call_ (ld_blt J gL mL PySem.boot_len (callWith_builtin1 (args_cons (Call_ (ld_blt J gS mS PyProof.Rows.boot_set (callWith_type1 (args_cons (thn (he.run pins s σ H _ J goal) fun v s' got => args_nil ?_) one) one rfl))) rfl) rfl rfl))
  obtain ⟨x, H', J', rx, l, ns, rfl, sq, few, out⟩ := got
  cases rx
  obtain ⟨vs, rel, isl, _⟩ := J'.list sq
  have size : vs.toArray.size = ns.length := by
    have := rel.length
    rw [List.length_map] at this
    rw [List.size_toArray]; omega
  refine call_set_list (ns := ns) (J'.ok.hd calm) isl.isList (by simpa using rel.ints) (by rw [size]; unfold scanBound; omega) fun heap toks made kept => args_nil ?_
  rw [size] at made
  have hcnt := firstMet_iff ns
  have hle := firstMet_length_le (fun i => ns.getD i 0) ns.length
  generalize (firstMet (fun i => ns.getD i 0) ns.length).length = cnt at made hcnt hle
  obtain ⟨ob, ents, epo, tab, m1, m2, m3, _, _, _, m4, m5⟩ := made
  have J2 : Inv X pins σ H' { s' with heap := heap, toks := toks } := J'.kept fun b u q => kept b u (Heap.lt_size q) q
  exact call_len_set m1 m2 m3 m4 (by rw [m5]; omega) ⟨.int cnt, H', J2.tok _, ⟨_, by rw [m5]⟩, out cnt hcnt⟩
end

/-! sorted(xs), xs a list of tuples of d whole numbers each within 0 and B, of any length -/
section
variable {pr : Program} {wo : World} {ar : Around} {Er : Value → Shared → Prop} {st : Shared}
theorem tups_sortable {a : Addr} {vs : List Value} {d : Nat} {B : Int} (hd : 1 ≤ d) (two : 2 ≤ vs.length) (all : TS.TupsOk st.heap d B vs) (r : Value → Int) (hr : ∀ v, v ∈ vs → ∀ ns, TS.TupInts st.heap v ns → r v = TS.code B ns)
    (notT : ∀ o, st.heap.get? a = some o → o.cls ≠ .type "tuple") : SrtO.SortableO pr wo ar st a vs fun v u => decide (r v < r u) := by
  intro heap same
  have still : ∀ b o, st.heap.get? b = some o → o.cls = .type "tuple" → heap.get? b = some o := fun b o q c => same b o (fun z => notT o (by rw [← z]; exact q) c) q
  have all' : TS.TupsOk heap d B vs := all.keeps still
  obtain ⟨fs, kat, len, areI⟩ := TS.firsts_of hd vs all'
  refine ⟨_, fun Q Er hq => PySem.W.kat_kind (T := Value.type "int") kat (by omega) (fun f hf => by obtain ⟨n, t, e⟩ := areI f hf; rw [e]; exact PySem.W.Looks.of_pure rfl) rfl hq, fun p q hp hq => ?_⟩
  obtain ⟨ns, tp, lp, bp⟩ := all' _ hp
  obtain ⟨ms, tq, lq, bq⟩ := all' _ hq
  obtain ⟨ns0, tp0, _⟩ := all _ hp
  obtain ⟨ms0, tq0, _⟩ := all _ hq
  have rp : r p.1 = TS.code B ns := by rw [hr _ hp _ tp0, ← (tp0.keeps still).ints, tp.ints]
  have rq : r q.1 = TS.code B ms := by rw [hr _ hq _ tq0, ← (tq0.keeps still).ints, tq.ints]
  have res : SrtO.lt2 (fun v u => decide (r v < r u)) p q = decide (TS.code B ns < TS.code B ms) := by
    show decide (r p.1 < r q.1) = _
    rw [rp, rq]
  obtain ⟨a1, xs, e1, ⟨o1, g1, _, n1, f1⟩, i1⟩ := tp
  obtain ⟨a2, ys, e2, ⟨o2, g2, _, n2, f2⟩, i2⟩ := tq
  rw [res, e1, e2]
  refine PySem.W.kat_lt g1 f1 g2 f2 ?_
  have l1 := i1.length
  have l2 := i2.length
  rw [Array.length_toList] at l1
  rw [Array.length_toList] at l2
  rw [show decide (xs.size < ys.size) = false from decide_eq_false (by omega)]
  exact TS.lex_ints 0 i1 i2 (by omega) bp bq ⟨rfl, rfl⟩
theorem swo_rank {α : Type} (r : α → Int) : SrtO.Swo fun v u => decide (r v < r u) := by
  constructor
  · intro x y h
    have := of_decide_eq_true h
    simp; omega
  · intro x y z h1 h2
    have := of_decide_eq_false h1
    have := of_decide_eq_false h2
    simp; omega
theorem sorted_tupsAny {l : Addr} {vs : List Value} {d : Nat} {B : Int} {Q : Value → Shared → Prop} (isl : st.heap.IsList l vs.toArray) (fits : vs.length ≤ sizeLine) (hd : 1 ≤ d) (all : TS.TupsOk st.heap d B vs)
    (goal : ∀ (heap : Heap) (p : Addr) (out : List Value), out.Perm vs → out.Pairwise (fun u v => TS.code B (TS.intsOf st.heap u) ≤ TS.code B (TS.intsOf st.heap v)) → (∀ b o, st.heap.get? b = some o → heap.get? b = some o) → st.heap.objs.size ≤ p → (∃ n, heap.get? p = some (seqObj "list" out.toArray n)) → Q (.ref p) { st with heap := heap }) :
    wpAny (model pr wo) ar (call (.builtin "sorted") [.ref l]) Q Er st := by
  refine SrtO.sorted_ord (swo_rank fun v => TS.code B (TS.intsOf st.heap v)) isl fits (fun two heap a ha kk => ?_) fun out hs hb => goal _ _ out hb.perm (hs.imp fun {u v} q => ?_) (fun b o e => sortedAll_old e) (Nat.le_succ _) (sortedAll_at st.heap vs out.toArray)
  · have still : ∀ b o, st.heap.get? b = some o → o.cls = .type "tuple" → heap.get? b = some o := fun b o q _ => (kk b o q).2
    refine tups_sortable (st := { st with heap := heap }) hd two (all.keeps still) _ (fun v hv ns t => ?_) fun o q c => ?_
    · obtain ⟨ms, tm, _⟩ := all v hv
      have e1 := tm.ints
      have e2 := (tm.keeps still).ints.symm.trans t.ints
      show TS.code B (TS.intsOf st.heap v) = TS.code B ns
      rw [e1, e2]
    · have z : o = seqObj "list" vs.toArray 0 := Option.some.inj (q.symm.trans ha)
      rw [z] at c
      have := Value.type.inj c
      exact absurd this (by decide)
  · have := of_decide_eq_false q
    omega
end
section
variable {X : Cx}
abbrev CodeLe (K : PySem.W.Frag) (H : Hp) (B : Int) (x y : V) : Prop := ∀ n m, TupI K H x n → TupI K H y m → TS.code B n ≤ TS.code B m
def rSortT (K : PySem.W.Frag) (d : Nat) (B : Int) : List V → Hp → VK → Prop := fun vs H Q => ∃ (a : Addr) (xs : List V), vs = [V.ref a] ∧ SqL K H a xs ∧ (∀ x ∈ xs, ∃ ns, TupI K H x ns ∧ ns.length = d ∧ TS.Bd B ns) ∧
  ∀ (ys : List V) (p : Addr), ys.Perm xs → ys.Pairwise (CodeLe K H B) → H p = none → Q (.ref p) (upd H p (.lst ys))
theorem cr_sortTany {d : Nat} {B : Int} (hd : 1 ≤ d) : CallR X (.builtin "sorted") (rSortT X.K d B) := by
  intro pins st σ H vs us Q J rel goal
  obtain ⟨a, xs, rfl, sq, good, out⟩ := goal
  obtain ⟨ws, rw', isl, fits⟩ := J.list sq
  rw [Vals.ref1 rel]
  have refs : ∀ x ∈ xs, ∃ t, x = V.ref t := fun x m => by
    obtain ⟨_, ⟨t, e, _⟩, _⟩ := good x m
    exact ⟨t, e⟩
  obtain ⟨e1, e2⟩ := bkV_refs rw' refs
  have back : ∀ t, Value.ref t ∈ ws → V.ref t ∈ xs := fun t m => by rw [e1]; exact List.mem_map.2 ⟨_, m, rfl⟩
  refine sorted_tupsAny (d := d) (B := B) isl.isList (by rw [← rw'.length]; exact fits) hd (fun v m => ?_) fun heap p ys perm srt kept new ⟨n, at_⟩ => ?_
  · obtain ⟨t, rfl⟩ := e2 v m
    obtain ⟨ns, ⟨t', e, ht⟩, hl, hb⟩ := good _ (back t m)
    cases e
    exact ⟨ns, tupI_raw J ht, hl, hb⟩
  · have refs2 : ∀ u ∈ ys, ∃ t, u = Value.ref t := fun u m => e2 u (perm.mem_iff.1 m)
    have perm2 : (ys.map bkV).Perm xs := by
      have := perm.map bkV
      rwa [← e1] at this
    refine ⟨.ref p, upd H p (.lst (ys.map bkV)), J.laid (t' := st.toks) kept new ⟨by rw [perm2.length_eq]; exact fits, ys, n, bkV_vals refs2, at_⟩, rfl, out _ _ perm2 ?_ (J.hok.fresh new)⟩
    rw [List.pairwise_map]
    refine srt.imp_of_mem fun {u v} mu mv le x y tx ty => ?_
    obtain ⟨tu, rfl⟩ := refs2 u mu
    obtain ⟨tv, rfl⟩ := refs2 v mv
    obtain ⟨a1, q1, s1⟩ := tx
    obtain ⟨a2, q2, s2⟩ := ty
    cases q1
    cases q2
    rw [(tupI_raw J s1).ints, (tupI_raw J s2).ints] at le
    exact le
end
end RtR

set_option Elab.async false
set_option maxRecDepth 100000
set_option maxHeartbeats 2000000
namespace RtE
open PySem PySem.Spec PyProof.Rows L2
/-! ### enumerate over a tuple -/
abbrev itO (t : Addr) : Obj := { cls := .type "tuple_iterator", data := .fields #[.ref t, .int 0 0] }
abbrev enO (it : Addr) : Obj := { cls := .type "enumerate", data := .fields #[.none, .bool false, .ref it, rawInt 0, .none, .none] }
theorem new_tup (t : Addr) (items : Array Value) : Meets (Builtin.«enumerate.__new__» ⟨[.type "enumerate", .ref t], []⟩)
    (fun _ R s => s.heap.IsTuple t items ∧ R (.ok (.ret (.ref (s.heap.push (itO t)).objs.size))) { s with heap := (s.heap.push (itO t)).push (enO s.heap.objs.size) }) :=
  .of_wp fun prog w A R s h => by
    obtain ⟨hp, g, dd, tk, os⟩ := s
    obtain ⟨ht, h⟩ := h
    have hsub := sub_enumerate
    have go : ∀ {B : Around} {F : Value → Shared → Prop} {Q : Value → Shared → Prop}, Q (.ref hp.objs.size) ⟨hp.push (itO t), g, dd, tk, os⟩ → wpAny (model prog w) B (pyIter (.ref t)) Q F ⟨hp, g, dd, tk, os⟩ :=
      fun q => (begins_tuple t items).iter prog w _ _ ⟨hp, g, dd, tk, os⟩ _ ht q
    wp_walk using go
    refine wpAny_stack_any fun _ => wpAny_pure ?_
    split
    · rename_i c _ _ _ _ _
      cases (c == Value.type "enumerate") <;> (wp_walk using go; exact ⟨_, rfl, h⟩)
    · wp_walk using go; exact ⟨_, rfl, h⟩
theorem call_tup {prog : Program} {w : World} {A : Around} {E : Value → Shared → Prop} {s : Shared} {t : Addr} {items : Array Value} {Q : Value → Shared → Prop} (ht : s.heap.IsTuple t items)
    (h : ∀ h', IsEnum h' (s.heap.objs.size + 1) s.heap.objs.size 0 .none → h'.IsTupleIter s.heap.objs.size t 0 → (∀ b o, s.heap.get? b = some o → h'.get? b = some o) → Q (.ref (s.heap.objs.size + 1)) { s with heap := h' }) :
    wpAny (model prog w) A (call (.type "enumerate") [.ref t]) Q E s := by
  refine callType_new F.called_enumerate (by decide) (F.typeCall_enumerate_1 _) (F.newCall_enumerate_1 _) (fun obj => F.args_object_init_2 obj _) F.entry_enumerate_new (new_tup t items) ⟨ht, ?_⟩
  have hz : (s.heap.push (itO t)).objs.size = s.heap.objs.size + 1 := Heap.size_push ..
  show _ ∧ _
  rw [hz]
  have he : IsEnum ((s.heap.push (itO t)).push (enO s.heap.objs.size)) (s.heap.objs.size + 1) s.heap.objs.size 0 .none := by
    have := Heap.get?_push_size (s.heap.push (itO t)) (o := enO s.heap.objs.size) rfl
    rwa [hz] at this
  exact ⟨⟨_, he, rfl⟩, h _ he ⟨_, Heap.get?_push_of_some _ (Heap.get?_push_size _ rfl), rfl, rfl⟩ fun b o y => Heap.get?_push_of_some _ (Heap.get?_push_of_some _ y)⟩
/-- the tuple at a, each item in a new pair -/
def ItE (K : PySem.W.Frag) (a : Addr) : It :=
  ⟨fun i H => ∃ (xs : List V) (x : V), SqT K H a xs ∧ xs[i]? = some x, fun i H v H' => ∃ T x, v = .ref T ∧ H T = none ∧ H' = upd H T (.tup [.int (i : Nat), x]) ∧ ∀ xs, SqT K H a xs → xs[i]? = some x, fun i H => ∃ xs : List V, SqT K H a xs ∧ xs.length = i⟩
theorem apart {h : Heap} {a e it : Addr} {i : Nat} {c : Int} {old : Value} {items : Array Value} (he : IsEnum h e it c old) (hi : h.IsTupleIter it a i) (ht : h.IsTuple a items) : a ≠ it ∧ e ≠ it ∧ e ∉ [it, a] := by
  obtain ⟨o1, h1, c1, d1⟩ := hi
  obtain ⟨o2, h2, c2, _⟩ := ht
  have a1 : a ≠ it := by
    rintro rfl
    rw [h1] at h2
    cases Option.some.inj h2
    rw [c1] at c2
    exact absurd (Value.type.inj c2) (by decide)
  have a2 : e ≠ it := by
    rintro rfl
    rw [he] at h1
    cases Option.some.inj h1
    exact absurd (Value.type.inj c1) (by decide)
  have a3 : e ≠ a := by
    rintro rfl
    rw [he] at h2
    cases Option.some.inj h2
    exact absurd (Value.type.inj c2) (by decide)
  exact ⟨a1, a2, by simp [a2, a3]⟩
theorem turn_tup {P : Program} {w : World} {K : PySem.W.Frag} {elts : List Expr} {kk : Nat} {tpos : Pos} (a e it : Addr) :
    Turn P w K (.Tuple elts kk tpos) (ItE K a) [e, it] e (fun i h => (∃ old, IsEnum h e it ((i : Nat) : Int) old) ∧ h.IsTupleIter it a i) where
  mem := by simp
  obj := fun i h st b hb => by
    obtain ⟨⟨old, he⟩, o, ho, hc, hd⟩ := st
    rcases (show b = e ∨ b = it by simpa using hb) with rfl | rfl
    · exact ⟨_, he, fun v q => nomatch q⟩
    · exact ⟨o, ho, fun v q => by rw [hd] at q; cases q⟩
  keep := fun i h h' st k => let ⟨⟨old, he⟩, hi⟩ := st; ⟨⟨old, k e (by simp) _ he⟩, hi.at fun o q => k it (by simp) o q⟩
  item := by
    intro X eP eW eK calm i pins s σ H E I free st more
    subst eP eW eK
    obtain ⟨⟨old, he⟩, hit⟩ := st
    obtain ⟨xs, x, seq, hx⟩ := more
    obtain ⟨its, rel, p, _⟩ := I.tuple seq
    obtain ⟨u, hu, ru⟩ := rel.get hx
    have pt : s.heap.IsTuple a its.toArray := p
    obtain ⟨n1, n2, n3⟩ := apart he hit pt
    have low : ∀ b ∈ [e, it], b < s.heap.objs.size := fun b hb => by
      rcases (show b = e ∨ b = it by simpa using hb) with rfl | rfl
      · exact Heap.lt_size he
      · obtain ⟨_, q, _⟩ := hit; exact Heap.lt_size q
    have hel := low e (by simp)
    have hlt : i < its.toArray.size := by
      have := (List.getElem?_eq_some_iff.1 hu).1
      simpa using this
    refine wpAny_pyNext_enum_itemC (Draws.tuple (A := X.A.in1) (show X.A.in1.handled = none from I.ok.hd calm) it a n1 its.toArray) he ⟨hit, pt⟩ hlt n2 n3 fun y h' tk hy ho hst hT hsz hk => ?_
    have hyu : y = u := by
      have : its[i]? = some y := by simpa using hy
      rw [hu] at this
      exact (Option.some.inj this).symm
    subst hyu
    refine ⟨_, rfl, wpAny_letOwnedTupleGo_enum (s := { s with heap := h', toks := tk + 1 }) ho fun h'' he' sb => ?_⟩
    have hT2 : h''.get? s.heap.objs.size = some { cls := .type "tuple", data := .seq #[.int i tk, y] } := (sb.2 _ (Nat.ne_of_gt hel)).trans hT
    have stays : ∀ b ob, b ∉ [e, it] → s.heap.get? b = some ob → h''.get? b = some ob := fun b ob hb q => by
      have be : b ≠ e := fun z => hb (by simp [z])
      have bi : b ≠ it := fun z => hb (by simp [z])
      exact (sb.2 b be).trans (hk b ob be bi q)
    have I1 := I.turnedNew (t' := tk + 1) stays free (Nat.le_refl _) (ob := .tup [.int (i : Nat), x]) ⟨by show 2 ≤ sizeLine; decide, [.int i tk, y], .cons ⟨_, rfl⟩ (.cons ru .nil), ⟨_, hT2, rfl, _, rfl⟩⟩
    refine ⟨.ref s.heap.objs.size, _, I1, rfl, ⟨_, x, rfl, I.hok.fresh (Nat.le_refl _), rfl, fun ys hy => by rw [I.tuple_inj hy seq]; exact hx⟩, ⟨⟨y, ?_⟩, hst.1.at fun o q => (sb.2 it (Ne.symm n2)).trans q⟩, fun b hb => ?_⟩
    · rw [Int.natCast_succ]; exact he'
    · rw [upd_ne (Nat.ne_of_lt (low b hb))]
      exact (free b hb).1
  done := by
    intro X eP eW eK calm i pins s σ H E I free st more
    subst eP eW eK
    obtain ⟨⟨old, he⟩, hit⟩ := st
    obtain ⟨xs, seq, hx⟩ := more
    obtain ⟨its, rel, p, _⟩ := I.tuple seq
    have pt : s.heap.IsTuple a its.toArray := p
    obtain ⟨n1, n2, n3⟩ := apart he hit pt
    obtain ⟨w0, w1, _, w3, w4, w5⟩ := free it (by simp)
    have hl : its.toArray.size = i := by
      have := rel.length
      simp; omega
    exact wpAny_pyNext_enum_endD (Draws.tuple (A := X.A.in1) (show X.A.in1.handled = none from I.ok.hd calm) it a n1 its.toArray) he ⟨by rw [hl]; exact hit, pt⟩ fun h' eb => ⟨rfl, I.turned (t' := s.toks) (fun b o hb q => eb b o hb q) w0 w1 w3 w4 w5⟩
  self := fun _ _ _ _ _ st h => wpAny_pyIter_enum st.1.choose_spec h
def iEnT (K : PySem.W.Frag) (ta : TA) : TI := fun σ H R => ta σ H fun vs H1 => ∃ a xs, vs = [.ref a] ∧ SqT K H1 a xs ∧ R (ItE K a) H1
theorem pi_enT {X : Cx} {e : Expr} {ta : TA} {p pos tpos : Pos} {elts : List Expr} {kk : Nat} (hg : Gl X "enumerate") (hm : X.mg "enumerate" = none) (ha : PA X [e] ta) (hs : starEach [e] X.env = [(false, eval e X.env)] := by rfl) :
    PI X (.Tuple elts kk tpos) (.Call (.Name "enumerate" p) [e] [] pos) (iEnT X.K ta) := by
  refine ⟨fun pins s σ H R I h => Call_ (ld_blt I hg hm boot_enumerate (PyProof.Rows.callWith_type1 (thn (ha.run pos pins s σ H _ I h) fun us s1 ⟨vs, H1, I1, r1, a, xs, ex, hq, q⟩ => ?_) hs rfl))⟩
  subst ex
  cases r1 with
  | cons r rr =>
    cases rr
    cases r
    obtain ⟨its, _, p', _⟩ := I1.tuple hq
    refine call_tup (show s1.heap.IsTuple a its.toArray from p') fun h' he hit hk => wpAny_pyIter_enum he ?_
    refine ⟨s1.heap.objs.size + 1, [s1.heap.objs.size + 1, s1.heap.objs.size], _, _, H1, rfl, I1.kept (t' := s1.toks) hk, turn_tup a (s1.heap.objs.size + 1) s1.heap.objs.size, ⟨⟨.none, he⟩, hit⟩, fun b hb => ?_, q⟩
    have above : s1.heap.objs.size ≤ b := by
      rcases (show b = s1.heap.objs.size + 1 ∨ b = s1.heap.objs.size by simpa using hb) with rfl | rfl
      · exact Nat.le_add_right _ _
      · exact Nat.le_refl _
    exact I1.fpOk above (I1.hok.fresh above)
theorem walk_enT {K : PySem.W.Frag} {a : Addr} {xs : List V} : Walk (ItE K a) xs.length (fun H => SqT K H a xs) (YPair (fun i => some (.int (i : Nat))) (fun i => xs[i]?)) := by
  refine ⟨fun i _ hi q => ⟨xs, xs[i], q, by simp [hi]⟩, fun _ q => ⟨xs, q, rfl⟩, fun i H v H' _ q y => ?_⟩
  obtain ⟨T, x, y1, y2, y3, y4⟩ := y
  exact ⟨T, V.int (i : Nat), x, y1, y2, y3, rfl, y4 xs q⟩
end RtE

set_option Elab.async false
set_option maxRecDepth 100000
set_option maxHeartbeats 2000000
namespace Rt
open PySem PySem.Spec PyProof.Rows L2
def topS (i : Nat) : Stmt := PySem.Challenge.pw_roundtypes_s01_answers.main.body.getD i (.Pass ⟨0, 0, 0, 0⟩)
abbrev sIsKind : Stmt := topS 1
abbrev sKindsOf : Stmt := topS 2
abbrev sBegun : Stmt := topS 3
abbrev sTurned : Stmt := topS 4
abbrev sDoubled : Stmt := topS 5
abbrev sLineOf : Stmt := topS 6
abbrev sSlopes : Stmt := topS 7
abbrev sShifts : Stmt := topS 8
abbrev sCovers : Stmt := topS 9
abbrev sWays : Stmt := topS 10
abbrev sPlaces : Stmt := topS 11
abbrev sKindOf : Stmt := topS 12
abbrev sKinds : Stmt := topS 13

theorem same_new {H : Hp} {p : Addr} {o : HO} (h : H p = none) : Same H (upd H p o) := fun b x e => by
  rw [upd_ne (ne_of_none e h)]; exact e
theorem same_refl (H : Hp) : Same H H := fun _ _ e => e
/-- a list made anew and changed since: what stood before stands -/
theorem same_at {H H' : Hp} {p : Addr} {o : HO} (s : Same H H') (h : H p = none) : Same H (upd H' p o) := fun b x e => by
  rw [upd_ne (ne_of_none e h)]; exact s b x e
abbrev ivs (l : List Int) : List V := l.map V.int
theorem ivs_get {l : List Int} {i : Nat} {v : V} (h : (ivs l)[i]? = some v) : ∃ z, l[i]? = some z ∧ v = V.int z := by
  rw [List.getElem?_map] at h
  cases e : l[i]? with
  | none => rw [e] at h; cases h
  | some z => rw [e] at h; exact ⟨z, rfl, (Option.some.inj h).symm⟩
theorem ivs_at {l : List Int} {i : Nat} {z : Int} (h : l[i]? = some z) : (ivs l)[i]? = some (V.int z) := by
  rw [List.getElem?_map, h]; rfl
theorem take_one {α : Type} {l : List α} {i : Nat} {x : α} (h : l[i]? = some x) : l.take (i + 1) = l.take i ++ [x] := by
  rw [List.take_add_one, h]; rfl
theorem small {n : Nat} (h : n ≤ 1000000) : n < sizeLine := Nat.lt_of_le_of_lt h (by decide)
/-- a def that makes a new list of a list of whole numbers -/
def spNew (K : PySem.W.Frag) (pre : List Int → Prop) (f : List Int → List Int) : Sp := fun vs H Q _ => ∃ (a : Addr) (ns : List Int), vs = [.ref a] ∧ SqL K H a (ivs ns) ∧ pre ns ∧
  ∀ (H' : Hp) (p : Addr), Same H H' → H p = none → H' p = some (.lst (ivs (f ns))) → Q (.ref p) H'
theorem map_more {l : List Int} {i : Nat} {z : Int} (f : Int → Int) (h : l[i]? = some z) : ivs ((l.take (i + 1)).map f) = ivs ((l.take i).map f) ++ [V.int (f z)] := by
  unfold ivs
  rw [take_one h, List.map_append, List.map_append]; rfl
theorem map_len {l : List Int} {i : Nat} (f : Int → Int) (h : l.length ≤ 1000000) : (ivs ((l.take i).map f)).length < sizeLine := by
  apply small
  rw [List.length_map, List.length_map, List.length_take]
  omega
theorem cut_from (xs : List V) (j : Nat) (h : j ≤ xs.length) : cutV xs (some (j : Int)) none = xs.drop j := by
  unfold cutV
  rw [HT.sIx_nat, HT.sIx_none, Nat.min_eq_left h]
  exact List.take_of_length_le (by rw [List.length_drop]; omega)
theorem cut_to (xs : List V) (j : Nat) (h : j ≤ xs.length) : cutV xs none (some (j : Int)) = xs.take j := by
  unfold cutV
  rw [HT.sIx_nat, HT.sIx_none, Nat.min_eq_left h]
  rfl
theorem flat_ivs (l : List Int) : (ivs l).all flatV = true := by
  rw [List.all_eq_true]
  intro v hv
  obtain ⟨z, _, rfl⟩ := List.mem_map.1 hv
  rfl
theorem none_of {H H' : Hp} {p : Addr} (s : Same H H') (h : H' p = none) : H p = none := by
  cases e : H p with
  | none => rfl
  | some o => rw [s _ _ e] at h; cases h
abbrev rLen (K : PySem.W.Frag) : List V → Hp → VK → Prop := fun xs H Q => ∃ p ys, xs = [V.ref p] ∧ (SqL K H p ys ∨ SqT K H p ys) ∧ Q (V.int ys.length) H
theorem ifT {A B : Prop} (h : A) : if true = true then A else B := by rw [if_pos rfl]; exact h
theorem ifF {A B : Prop} (h : B) : if false = true then A else B := by rw [if_neg Bool.false_ne_true]; exact h
theorem ifB {c : Bool} {A B : Prop} (h1 : c = true → A) (h2 : c = false → B) : if c = true then A else B := by
  cases c
  · exact ifF (h2 rfl)
  · exact ifT (h1 rfl)
/-- a row of whole numbers, a list or a tuple -/
def EitherAt (K : PySem.W.Frag) (H : Hp) (a : Addr) (ns : List Int) : Prop := SqL K H a (ivs ns) ∨ H a = some (.tup (ivs ns))
theorem tSq {K : PySem.W.Frag} {H H' : Hp} {a : Addr} {xs : List V} (s : Same H H') (h : H a = some (.tup xs)) : SqT K H' a xs := .inl (.inl (s _ _ h))
theorem EitherAt.same {K : PySem.W.Frag} {H H' : Hp} {a : Addr} {ns : List Int} (h : EitherAt K H a ns) (s : Same H H') : EitherAt K H' a ns := h.imp (fun q => s.seq q) fun q => s _ _ q
theorem EitherAt.seq {K : PySem.W.Frag} {H : Hp} {a : Addr} {ns : List Int} (h : EitherAt K H a ns) : SqL K H a (ivs ns) ∨ SqT K H a (ivs ns) := h.imp id fun q => .inl (.inl q)
/-- tuple(row): the same tuple, or a new one -/
theorem kTup_of {K : PySem.W.Frag} {H : Hp} {a : Addr} {ns : List Int} {G : VK} (h : EitherAt K H a ns) (g : ∀ (H1 : Hp) (t : Addr), Same H H1 → H1 t = some (.tup (ivs ns)) → G (.ref t) H1) : kTup K (.ref a) H G := by
  rcases h with h | h
  · exact .inl ⟨a, _, rfl, h, fun q nq => g _ q (same_new nq) upd_same⟩
  · exact .inr ⟨a, _, rfl, .inl (.inl h), g H a (same_refl H) h⟩
def spNewE (K : PySem.W.Frag) (pre : List Int → Prop) (f : List Int → List Int) : Sp := fun vs H Q _ => ∃ (a : Addr) (ns : List Int), vs = [.ref a] ∧ EitherAt K H a ns ∧ pre ns ∧
  ∀ (H' : Hp) (p : Addr), Same H H' → H p = none → H' p = some (.lst (ivs (f ns))) → Q (.ref p) H'
theorem fn_or {P : Program} {w : World} {K : PySem.W.Frag} {mg : Str → Option Value} {base : Heap} {CX : CXT} {k : Nat} {f : Addr} {fd : FuncData} {ps : List Str} {sp sq sr : Sp} (F : FnOk P w K mg base CX k f fd ps sp) (G : FnOk P w K mg base CX k f fd ps sq)
    (h : ∀ vs H Q E, sr vs H Q E → sp vs H Q E ∨ sq vs H Q E) : FnOk P w K mg base CX k f fd ps sr := by
  refine ⟨fun vs H Q E q => ?_, fun A outer s H args us vs Q E hr he hb hv hs => ?_⟩
  · rcases h vs H Q E q with z | z
    · exact F.len vs H Q E z
    · exact G.len vs H Q E z
  · rcases h vs H Q E hs with z | z
    · exact F.run A outer s H args us vs Q E hr he hb hv z
    · exact G.run A outer s H args us vs Q E hr he hb hv z
end Rt

set_option Elab.async false
set_option maxRecDepth 100000
set_option maxHeartbeats 2000000
namespace Rt
open PySem PySem.Spec PyProof.Rows L2
theorem scDb : FnScope ["kind", "number"] ["kind"] (defScope sDoubled) := ⟨rfl, rfl, rfl, by decide +kernel, rfl, by decide +kernel, by decide +kernel⟩
theorem scBg : FnScope ["row", "at"] ["row"] (defScope sBegun) := ⟨rfl, rfl, rfl, by decide +kernel, rfl, by decide +kernel, by decide +kernel⟩
theorem scTu : FnScope ["kind", "number"] ["kind"] (defScope sTurned) := ⟨rfl, rfl, rfl, by decide +kernel, rfl, by decide +kernel, by decide +kernel⟩
def mDoubled (l : List Int) : List Int := (l.map fun x => 2 * x) ++ l.map fun x => 2 * x + 1
def leastAt (l : List Int) : Nat := l.idxOf (l.min?.getD 0)
def mBegun (l : List Int) : List Int := l.drop (leastAt l) ++ l.take (leastAt l)
def mTurned (l : List Int) : List Int := mBegun (l.map fun x => (l.length : Int) - 1 - x)
theorem leastAt_of {l : List Int} {m : Int} (h : m ∈ l) (hm : ∀ y ∈ l, m ≤ y) : leastAt l = l.idxOf m := by
  unfold leastAt
  rw [List.min?_eq_some_iff.2 ⟨h, hm⟩]
  rfl
theorem leastAt_le (l : List Int) : leastAt l ≤ l.length := List.idxOf_le_length
theorem mBegun_len (l : List Int) : (mBegun l).length = l.length := by
  unfold mBegun
  have := leastAt_le l
  rw [List.length_append, List.length_drop, List.length_take]
  omega
/-- list.index of what is there -/
theorem index_at {l : List Int} {m : Int} (h : m ∈ l) : ∃ z, (ivs l)[l.idxOf m]? = some z ∧ eqV z (V.int m) = true ∧ ∀ (j : Nat) (z' : V), j < l.idxOf m → (ivs l)[j]? = some z' → eqV z' (V.int m) = false := by
  have hlt := List.idxOf_lt_length_iff.2 h
  refine ⟨V.int m, ivs_at (by rw [List.getElem?_eq_getElem hlt, List.getElem_idxOf hlt]), beq_self_eq_true m, fun j z' hj hz => ?_⟩
  obtain ⟨z, hz2, rfl⟩ := ivs_get hz
  have hjl : j < l.length := Nat.lt_trans hj hlt
  have e : l[j] = z := by
    rw [List.getElem?_eq_getElem hjl] at hz2
    exact Option.some.inj hz2
  have := List.not_of_lt_findIdx (p := (· == m)) (xs := l) hj
  rw [← e]
  exact this
section
variable {P : Program} {w : World} {K : PySem.W.Frag} {mg : Str → Option Value} {base : Heap}
theorem ok_doubled {f : Addr} {fd : FuncData} (F : Fun K "doubled" "doubled" sDoubled f fd) : FnOk P w K mg base CX0 1 f fd ["kind"] (spNew K (fun ns => ns.length ≤ 1000) mDoubled) := by
  refine F.ok scDb (fun vs H Q E h => ?_) (fun cdv A outer s H vs Q E hr h => ?_)
  · obtain ⟨a, ns, rfl, _⟩ := h
    rfl
  · obtain ⟨a, ns, rfl, hS, hlen, q⟩ := h
    refine ⟨_, pss_one (ps_ret (pe_op op_cat
      (pe_lc (own := [("number", 1)]) (g := gName 1) (tt := tYes) rfl scDb.nd (pi_list (pv 0)) (blkOk_by (N := ["kind", "number"]) (sc := defScope sDoubled) (by decide +kernel)) (fun _ _ _ _ _ => pg_name (i := 1) scDb.nd rfl (Or.inl rfl)) (fun _ _ _ _ _ => pts_nil) (fun _ _ _ _ _ => pe_op op_mul pe_int (pv 1)))
      (pe_lc (own := [("number", 1)]) (g := gName 1) (tt := tYes) rfl scDb.nd (pi_list (pv 0)) (blkOk_by (N := ["kind", "number"]) (sc := defScope sDoubled) (by decide +kernel)) (fun _ _ _ _ _ => pg_name (i := 1) scDb.nd rfl (Or.inl rfl)) (fun _ _ _ _ _ => pts_nil) (fun _ _ _ _ _ => pe_op op_add (pe_op op_mul pe_int (pv 1)) pe_int)))), ?_⟩
    refine ⟨_, rfl, a, rfl, ⟨_, hS⟩, fun D1 n1 => ?_⟩
    refine lc_list (K := K) (a := a) (xs := ivs ns) (fun i H' => Same H H' ∧ H' D1 = some (.lst (ivs ((ns.take i).map fun x => 2 * x)))) ⟨same_new n1, upd_same⟩ (fun i H' _ h => h.1.seq hS) ?_ ?_
    · rintro i x H' hx ⟨sm, hD⟩
      obtain ⟨z, hz, rfl⟩ := ivs_get hx
      refine ⟨rfl, ?_⟩
      refine ⟨_, rfl, 2, z, rfl, rfl, .inl ⟨by decide, by decide⟩, _, hD, map_len _ (by omega), same_at sm n1, ?_⟩
      rw [upd_same, map_more _ hz]
    · rintro H1 ⟨sm, hD⟩
      rw [List.length_map, List.take_length] at hD
      refine ⟨_, rfl, a, rfl, ⟨_, sm.seq hS⟩, fun D2 n2 => ?_⟩
      refine lc_list (K := K) (a := a) (xs := ivs ns) (fun i H' => Same H1 H' ∧ H' D2 = some (.lst (ivs ((ns.take i).map fun x => 2 * x + 1)))) ⟨same_new n2, upd_same⟩ (fun i H' _ h => h.1.seq (sm.seq hS)) ?_ ?_
      · rintro i x H' hx ⟨sm', hD'⟩
        obtain ⟨z, hz, rfl⟩ := ivs_get hx
        refine ⟨rfl, ?_⟩
        refine ⟨_, rfl, 2, z, rfl, rfl, .inl ⟨by decide, by decide⟩, _, _, rfl, rfl, _, hD', map_len _ (by omega), same_at sm' n2, ?_⟩
        rw [upd_same, map_more _ hz]
      · rintro H2 ⟨sm', hD'⟩
        rw [List.length_map, List.take_length] at hD'
        refine ⟨D1, D2, _, _, rfl, rfl, sm' _ _ hD, hD', ?_, fun p np => ?_⟩
        · refine Nat.le_of_lt (small ?_)
          simp only [List.length_map]
          omega
        · refine q _ p ((sm.trans sm').trans (same_new np)) ?_ ?_
          · exact none_of (sm.trans sm') np
          · rw [upd_same]
            unfold mDoubled ivs
            rw [List.map_append]
theorem ok_begun {f : Addr} {fd : FuncData} (F : Fun K "begun_at_least" "begun_at_least" sBegun f fd) (mm : mg "min" = none) : FnOk P w K mg base CX0 1 f fd ["row"] (spNew K (fun ns => 0 < ns.length ∧ ns.length ≤ 1000) mBegun) := by
  refine F.ok scBg (fun vs H Q E h => ?_) (fun cdv A outer s H vs Q E hr h => ?_)
  · obtain ⟨a, ns, rfl, _⟩ := h
    rfl
  · obtain ⟨a, ns, rfl, hS, ⟨h0, hlen⟩, q⟩ := h
    refine ⟨_, pss_cons (ps_set (i := 1) scBg.nd rfl (Or.inl rfl) (pe_bm PySem.F.plainAttrs_list PySem.F.slot_list_index PySem.F.type_list_index mt_index (pv 0) (pa_cons (pe_callB (cr_min rfl) (by rfl) mm (by decide +kernel) (pa_cons (pv 0) pa_nil)) pa_nil)))
      (pss_one (ps_ret (pe_op op_cat (pe_slice sl_list (pv 0) (po_some (pv 1)) po_none) (pe_slice sl_list (pv 0) po_none (po_some (pv 1)))))), ?_⟩
    refine ⟨_, rfl, .inl ⟨rfl, _, hS⟩, _, rfl, a, ns, rfl, hS, h0, fun m hm hle => ?_⟩
    obtain ⟨z, i1, i2, i3⟩ := index_at hm
    rw [← leastAt_of hm hle] at i1 i3
    have hj := leastAt_le ns
    refine ⟨a, _, _, leastAt ns, z, rfl, rfl, hS, rfl, flat_ivs ns, i1, i2, i3, ?_⟩
    have hjv : leastAt ns ≤ (ivs ns).length := by rw [List.length_map]; exact hj
    refine ⟨_, rfl, _, rfl, _, rfl, a, _, rfl, hS, fun p1 n1 => ?_⟩
    have s1 : Same H (upd H p1 (.lst (cutV (ivs ns) (some (leastAt ns : Int)) none))) := same_new n1
    refine ⟨_, rfl, _, rfl, _, rfl, a, _, rfl, s1.seq hS, fun p2 n2 => ?_⟩
    have s2 : Same (upd H p1 (.lst (cutV (ivs ns) (some (leastAt ns : Int)) none))) _ := same_new (o := .lst (cutV (ivs ns) none (some (leastAt ns : Int)))) n2
    refine ⟨p1, p2, _, _, rfl, rfl, s2 _ _ upd_same, upd_same, ?_, fun p np => ?_⟩
    · rw [cut_from _ _ hjv, cut_to _ _ hjv, List.length_drop, List.length_take]
      refine Nat.le_of_lt (small ?_)
      rw [List.length_map]
      omega
    · refine q _ p ((s1.trans s2).trans (same_new np)) (none_of (s1.trans s2) np) ?_
      rw [upd_same, cut_from _ _ hjv, cut_to _ _ hjv]
      unfold mBegun ivs
      rw [List.map_append, List.map_drop, List.map_take]
theorem ok_turned {f fB : Addr} {fd fdB : FuncData} (F : Fun K "turned" "turned" sTurned f fd) (GB : FnOk P w K mg base CX0 1 fB fdB ["row"] (spNew K (fun ns => 0 < ns.length ∧ ns.length ≤ 1000) mBegun)) (kB : PySem.W.keepIn K (.ref fB) = true)
    (bB : Binds K fdB ["row"] []) (gB : mg "begun_at_least" = some (.ref fB)) (ml : mg "len" = none) : FnOk P w K mg base CX0 2 f fd ["kind"] (spNew K (fun ns => 0 < ns.length ∧ ns.length ≤ 1000) mTurned) := by
  refine F.ok scTu (fun vs H Q E h => ?_) (fun cdv A outer s H vs Q E hr h => ?_)
  · obtain ⟨a, ns, rfl, _⟩ := h
    rfl
  · obtain ⟨a, ns, rfl, hS, ⟨h0, hlen⟩, q⟩ := h
    refine ⟨_, pss_one (ps_ret (pe_call GB hr (by rfl) gB kB bB .nil pass0 (pa_cons
      (pe_lc (own := [("number", 1)]) (g := gName 1) (tt := tYes) rfl scTu.nd (pi_list (pv 0)) (blkOk_by (N := ["kind", "number"]) (sc := defScope sTurned) (by decide +kernel)) (fun _ _ _ _ _ => pg_name (i := 1) scTu.nd rfl (Or.inl rfl)) (fun _ _ _ _ _ => pts_nil)
        (fun _ _ _ _ _ => pe_op op_sub (pe_op op_sub (pe_callB (r := rLen K) call_len_seq (by rfl) ml PySem.boot_len (pa_cons (pv 0) pa_nil)) pe_int) (pv 1))) pa_nil))), ?_⟩
    refine ⟨_, rfl, a, rfl, ⟨_, hS⟩, fun D1 n1 => ?_⟩
    refine lc_list (K := K) (a := a) (xs := ivs ns) (fun i H' => Same H H' ∧ H' D1 = some (.lst (ivs ((ns.take i).map fun x => (ns.length : Int) - 1 - x)))) ⟨same_new n1, upd_same⟩ (fun i H' _ h => h.1.seq hS) ?_ ?_
    · rintro i x H' hx ⟨sm, hD⟩
      obtain ⟨z, hz, rfl⟩ := ivs_get hx
      refine ⟨rfl, ?_⟩
      refine ⟨_, rfl, a, _, rfl, .inl (sm.seq hS), _, _, rfl, rfl, _, rfl, _, _, rfl, rfl, _, hD, map_len _ (by omega), same_at sm n1, ?_⟩
      rw [upd_same, map_more _ hz, List.length_map]
    · rintro H1 ⟨sm, hD⟩
      rw [List.length_map, List.take_length] at hD
      refine ⟨D1, _, rfl, SqL.of hD, ⟨by rw [List.length_map]; exact h0, by rw [List.length_map]; exact hlen⟩, fun H2 p s2 np hp => ?_⟩
      exact q H2 p (sm.trans s2) (none_of sm np) hp
end
end Rt

set_option Elab.async false
set_option maxRecDepth 100000
set_option maxHeartbeats 2000000
namespace Rt
open PySem PySem.Spec PyProof.Rows L2
theorem scLi : FnScope ["kind", "line", "at", "number"] ["kind"] (defScope sLineOf) := ⟨rfl, rfl, rfl, by decide +kernel, rfl, by decide +kernel, by decide +kernel⟩
theorem scSl : FnScope ["line", "piece"] ["line"] (defScope sSlopes) := ⟨rfl, rfl, rfl, by decide +kernel, rfl, by decide +kernel, by decide +kernel⟩
theorem scSh : FnScope ["line", "slopes", "piece", "slope"] ["line", "slopes"] (defScope sShifts) := ⟨rfl, rfl, rfl, by decide +kernel, rfl, by decide +kernel, by decide +kernel⟩
theorem scCo : FnScope ["line", "covers", "piece", "low", "high"] ["line"] (defScope sCovers) := ⟨rfl, rfl, rfl, by decide +kernel, rfl, by decide +kernel, by decide +kernel⟩
def lineStep (t l : List Int) (i : Nat) : List Int := l.set (t.getD i 0).toNat (t.getD ((i + 1) % t.length) 0)
def lineTo (t : List Int) (i : Nat) : List Int := (List.range i).foldl (lineStep t) (List.replicate t.length 0)
def mLine (t : List Int) : List Int := lineTo t t.length
theorem lineTo_succ (t : List Int) (i : Nat) : lineTo t (i + 1) = lineStep t (lineTo t i) i := by
  unfold lineTo
  rw [List.range_succ, List.foldl_append]; rfl
theorem lineTo_len (t : List Int) : ∀ i, (lineTo t i).length = t.length
  | 0 => by simp [lineTo]
  | i + 1 => by rw [lineTo_succ]; unfold lineStep; rw [List.length_set, lineTo_len t i]
def mSlopes (l : List Int) : List Int := (List.range (l.length - 1)).map fun i => l.getD (i + 1) 0 - l.getD i 0
def mShifts (l s : List Int) : List Int := (List.range s.length).map fun i => l.getD i 0 - s.getD i 0 * i
def rangeI (a b : Int) : List Int := (List.range (b - a).toNat).map fun (i : Nat) => a + (i : Int)
def mCover (l : List Int) (i : Nat) : List Int := rangeI (if l.getD (i + 1) 0 < l.getD i 0 then l.getD (i + 1) 0 else l.getD i 0) (if l.getD (i + 1) 0 > l.getD i 0 then l.getD (i + 1) 0 else l.getD i 0)
def mCovers (l : List Int) : List (List Int) := (List.range (l.length - 1)).map (mCover l)
theorem rgV_eq (a b : Int) : rgV a b = ivs (rangeI a b) := by
  unfold rgV rangeI ivs
  rw [List.map_map]; rfl
theorem getD_at {l : List Int} {i : Nat} (h : i < l.length) : l[i]? = some (l.getD i 0) := by
  rw [List.getD_eq_getElem?_getD, List.getElem?_eq_getElem h]; rfl
theorem range_more {α : Type} (f : Nat → α) (i : Nat) : (List.range (i + 1)).map f = (List.range i).map f ++ [f i] := by
  rw [List.range_succ, List.map_append]; rfl
/-- rows of whole numbers, each at its own place -/
def Rows (H : Hp) (as : List Addr) (L : List (List Int)) : Prop := as.length = L.length ∧ ∀ (i : Nat) (a : Addr) (l : List Int), as[i]? = some a → L[i]? = some l → H a = some (.lst (ivs l))
theorem Rows.same {H H' : Hp} {as : List Addr} {L : List (List Int)} (r : Rows H as L) (s : Same H H') : Rows H' as L := ⟨r.1, fun i a l h1 h2 => s _ _ (r.2 i a l h1 h2)⟩
theorem Rows.nil (H : Hp) : Rows H [] [] := ⟨rfl, fun i a l h => by simp at h⟩
theorem Rows.add {H : Hp} {as : List Addr} {L : List (List Int)} {p : Addr} {l : List Int} (r : Rows H as L) (h : H p = some (.lst (ivs l))) : Rows H (as ++ [p]) (L ++ [l]) := by
  refine ⟨by simp [r.1], fun i a m h1 h2 => ?_⟩
  by_cases hi : i < as.length
  · rw [List.getElem?_append_left hi] at h1
    rw [List.getElem?_append_left (by rw [← r.1]; exact hi)] at h2
    exact r.2 i a m h1 h2
  · rw [List.getElem?_append_right (by omega)] at h1
    rw [List.getElem?_append_right (by rw [← r.1]; omega)] at h2
    rw [r.1] at h1
    cases e : i - L.length with
    | zero =>
      rw [e] at h1 h2
      simp at h1 h2
      rw [← h1, ← h2]; exact h
    | succ n => rw [e] at h1; simp at h1
/-- what is written to another place leaves them -/
theorem Rows.upd {H : Hp} {as : List Addr} {L : List (List Int)} {p : Addr} {o : HO} (r : Rows H as L) (h : ∀ a ∈ as, a ≠ p) : Rows (upd H p o) as L :=
  ⟨r.1, fun i a l h1 h2 => by rw [upd_ne (h a (List.mem_of_getElem? h1))]; exact r.2 i a l h1 h2⟩
section
variable {P : Program} {w : World} {K : PySem.W.Frag} {mg : Str → Option Value} {base : Heap}
abbrev okLine (ns : List Int) : Prop := ns.length ≤ 1000 ∧ ∀ x ∈ ns, 0 ≤ x ∧ x < (ns.length : Int)
theorem okLine.at {ns : List Int} (h : okLine ns) {i : Nat} (hi : i < ns.length) : 0 ≤ ns.getD i 0 ∧ ns.getD i 0 < (ns.length : Int) :=
  h.2 _ (List.mem_of_getElem? (getD_at hi))
theorem ok_line {f : Addr} {fd : FuncData} (F : Fun K "line_of" "line_of" sLineOf f fd) (ml : mg "len" = none) (me : mg "enumerate" = none) : FnOk P w K mg base CX0 1 f fd ["kind"] (spNew K okLine mLine) := by
  refine F.ok scLi (fun vs H Q E h => ?_) (fun cdv A outer s H vs Q E hr h => ?_)
  · obtain ⟨a, ns, rfl, _⟩ := h
    rfl
  · obtain ⟨a, ns, rfl, hS, hok, q⟩ := h
    refine ⟨_, pss_cons (ps_set (i := 1) scLi.nd rfl (Or.inl rfl) (pe_op op_rep (pe_lst (pa_cons pe_int pa_nil)) (pe_callB call_len_seq (by rfl) ml PySem.boot_len (pa_cons (pv 0) pa_nil))))
      (pss_cons (ps_for PassesOwn.never rfl (pi_enum (by rfl) me (pa_cons (pv 0) pa_nil)) (pg_tup rfl (pgs_cons (pg_name (i := 2) scLi.nd rfl (Or.inl rfl)) (pgs_cons (pg_name (i := 3) scLi.nd rfl (Or.inl rfl)) pgs_nil)))
        (pss_one (ps_asg (pe_ix ix_list (pv 0) (pe_op op_modN (pe_op op_add (pv 2) pe_int) (pe_callB call_len_seq (by rfl) ml PySem.boot_len (pa_cons (pv 0) pa_nil))) (fun _ _ => rfl)) (pg_sub (pv 1) (pv 3) set_list))))
      (pss_one (ps_ret (pv 1)))), ?_⟩
    refine ⟨by show 1 ≤ sizeLine; decide, fun l nl => ?_⟩
    have s1 : Same H (upd H l (.lst [.int 0])) := same_new nl
    refine ⟨_, rfl, a, _, rfl, .inl (s1.seq hS), l, _, [.int 0], rfl, rfl, upd_same, by have := hok.1; rw [List.length_map]; omega, by have := hok.1; rw [List.length_map]; omega, ?_, fun p np => ?_⟩
    · refine Nat.le_of_lt (small ?_)
      have := hok.1
      simp only [List.length_map, List.length_cons, List.length_nil]
      omega
    have np0 : H p = none := none_of s1 np
    refine ⟨_, rfl, a, _, rfl, (s1.trans (same_new np)).seq hS, ?_⟩
    refine for_it (walk_enum (K := K) (a := a) (xs := ivs ns)) (fun i σ H' => ∃ y2 y3, σ = [some (.ref a), some (.ref p), y2, y3] ∧ Same H H' ∧ H' p = some (.lst (ivs (lineTo ns i)))) ?_ ?_ ?_ ?_
    · refine ⟨none, none, rfl, s1.trans (same_new np), ?_⟩
      rw [upd_same]
      congr 2
      unfold lineTo ivs
      simp
    · rintro i σ H' _ ⟨y2, y3, rfl, sm, hp⟩
      exact sm.seq hS
    · rintro i x σ H' H2 hi ⟨y2, y3, rfl, sm, hp⟩ ⟨T, x1, x2, rfl, nT, rfl, e1, e2⟩
      rw [List.length_map] at hi
      obtain ⟨z, hz, rfl⟩ := ivs_get e2
      cases Option.some.inj e1
      have hz' : z = ns.getD i 0 := by rw [getD_at hi] at hz; exact (Option.some.inj hz).symm
      subst hz'
      have hb := hok.at hi
      have sT : Same H' (upd H' T (.tup [V.int (i : Int), V.int (ns.getD i 0)])) := same_new nT
      refine ⟨T, _, rfl, .inl (.inl upd_same), rfl, _, _, rfl, _, _, rfl, rfl, ?_⟩
      refine ⟨_, rfl, _, rfl, _, _, rfl, rfl, _, rfl, a, _, rfl, .inl ((sm.trans sT).seq hS), _, _, rfl, rfl, ?_, a, _, _, V.int (ns.getD ((i + 1) % ns.length) 0), rfl, rfl, (sm.trans sT).seq hS, ?_, _, rfl, _, rfl, p, _, _, (ns.getD i 0).toNat, rfl, rfl, sT _ _ hp, ?_, ?_⟩
      · rw [List.length_map]; omega
      · rw [List.length_map]
        have e : ((i : Int) + 1).fmod (ns.length : Int) = (((i + 1) % ns.length : Nat) : Int) := by
          rw [Int.fmod_eq_emod_of_nonneg _ (by omega)]; rfl
        rw [e]
        exact atI_nat (ivs_at (getD_at (Nat.mod_lt _ (by omega))))
      · unfold ixN
        rw [if_pos hb.1, List.length_map, lineTo_len, if_pos hb.2]
      · refine ⟨_, _, rfl, same_at (sm.trans sT) np0, ?_⟩
        rw [upd_same, lineTo_succ]
        unfold lineStep ivs
        rw [List.map_set]
    · rintro σ H' ⟨y2, y3, rfl, sm, hp⟩
      rw [List.length_map] at hp
      exact ⟨_, rfl, q H' p sm np0 hp⟩
/-- the same of a tuple -/
def spTup (pre : List Int → Prop) (f : List Int → List Int) : Sp := fun vs H Q _ => ∃ (a : Addr) (ns : List Int), vs = [.ref a] ∧ H a = some (.tup (ivs ns)) ∧ pre ns ∧
  ∀ (H' : Hp) (p : Addr), Same H H' → H p = none → H' p = some (.lst (ivs (f ns))) → Q (.ref p) H'
theorem ok_lineT {f : Addr} {fd : FuncData} (F : Fun K "line_of" "line_of" sLineOf f fd) (ml : mg "len" = none) (me : mg "enumerate" = none) : FnOk P w K mg base CX0 1 f fd ["kind"] (spTup okLine mLine) := by
  refine F.ok scLi (fun vs H Q E h => ?_) (fun cdv A outer s H vs Q E hr h => ?_)
  · obtain ⟨a, ns, rfl, _⟩ := h
    rfl
  · obtain ⟨a, ns, rfl, hS, hok, q⟩ := h
    refine ⟨_, pss_cons (ps_set (i := 1) scLi.nd rfl (Or.inl rfl) (pe_op op_rep (pe_lst (pa_cons pe_int pa_nil)) (pe_callB call_len_seq (by rfl) ml PySem.boot_len (pa_cons (pv 0) pa_nil))))
      (pss_cons (ps_for PassesOwn.never rfl (RtE.pi_enT (by rfl) me (pa_cons (pv 0) pa_nil)) (pg_tup rfl (pgs_cons (pg_name (i := 2) scLi.nd rfl (Or.inl rfl)) (pgs_cons (pg_name (i := 3) scLi.nd rfl (Or.inl rfl)) pgs_nil)))
        (pss_one (ps_asg (pe_ix ix_tup (pv 0) (pe_op op_modN (pe_op op_add (pv 2) pe_int) (pe_callB call_len_seq (by rfl) ml PySem.boot_len (pa_cons (pv 0) pa_nil))) (fun _ _ => rfl)) (pg_sub (pv 1) (pv 3) set_list))))
      (pss_one (ps_ret (pv 1)))), ?_⟩
    refine ⟨by show 1 ≤ sizeLine; decide, fun l nl => ?_⟩
    have s1 : Same H (upd H l (.lst [.int 0])) := same_new nl
    refine ⟨_, rfl, a, _, rfl, .inr (tSq s1 hS), l, _, [.int 0], rfl, rfl, upd_same, by have := hok.1; rw [List.length_map]; omega, by have := hok.1; rw [List.length_map]; omega, ?_, fun p np => ?_⟩
    · refine Nat.le_of_lt (small ?_)
      have := hok.1
      simp only [List.length_map, List.length_cons, List.length_nil]
      omega
    have np0 : H p = none := none_of s1 np
    refine ⟨_, rfl, a, _, rfl, tSq (s1.trans (same_new np)) hS, ?_⟩
    refine for_it (RtE.walk_enT (K := K) (a := a) (xs := ivs ns)) (fun i σ H' => ∃ y2 y3, σ = [some (.ref a), some (.ref p), y2, y3] ∧ Same H H' ∧ H' p = some (.lst (ivs (lineTo ns i)))) ?_ ?_ ?_ ?_
    · refine ⟨none, none, rfl, s1.trans (same_new np), ?_⟩
      rw [upd_same]
      congr 2
      unfold lineTo ivs
      simp
    · rintro i σ H' _ ⟨y2, y3, rfl, sm, hp⟩
      exact tSq sm hS
    · rintro i x σ H' H2 hi ⟨y2, y3, rfl, sm, hp⟩ ⟨T, x1, x2, rfl, nT, rfl, e1, e2⟩
      rw [List.length_map] at hi
      obtain ⟨z, hz, rfl⟩ := ivs_get e2
      cases Option.some.inj e1
      have hz' : z = ns.getD i 0 := by rw [getD_at hi] at hz; exact (Option.some.inj hz).symm
      subst hz'
      have hb := hok.at hi
      have sT : Same H' (upd H' T (.tup [V.int (i : Int), V.int (ns.getD i 0)])) := same_new nT
      refine ⟨T, _, rfl, .inl (.inl upd_same), rfl, _, _, rfl, _, _, rfl, rfl, ?_⟩
      refine ⟨_, rfl, _, rfl, _, _, rfl, rfl, _, rfl, a, _, rfl, .inr (tSq (sm.trans sT) hS), _, _, rfl, rfl, ?_, a, _, _, V.int (ns.getD ((i + 1) % ns.length) 0), rfl, rfl, tSq (sm.trans sT) hS, ?_, _, rfl, _, rfl, p, _, _, (ns.getD i 0).toNat, rfl, rfl, sT _ _ hp, ?_, ?_⟩
      · rw [List.length_map]; omega
      · rw [List.length_map]
        have e : ((i : Int) + 1).fmod (ns.length : Int) = (((i + 1) % ns.length : Nat) : Int) := by
          rw [Int.fmod_eq_emod_of_nonneg _ (by omega)]; rfl
        rw [e]
        exact atI_nat (ivs_at (getD_at (Nat.mod_lt _ (by omega))))
      · unfold ixN
        rw [if_pos hb.1, List.length_map, lineTo_len, if_pos hb.2]
      · refine ⟨_, _, rfl, same_at (sm.trans sT) np0, ?_⟩
        rw [upd_same, lineTo_succ]
        unfold lineStep ivs
        rw [List.map_set]
    · rintro σ H' ⟨y2, y3, rfl, sm, hp⟩
      rw [List.length_map] at hp
      exact ⟨_, rfl, q H' p sm np0 hp⟩
theorem ok_lineE {f : Addr} {fd : FuncData} (F : Fun K "line_of" "line_of" sLineOf f fd) (ml : mg "len" = none) (me : mg "enumerate" = none) : FnOk P w K mg base CX0 1 f fd ["kind"] (spNewE K okLine mLine) := by
  refine fn_or (ok_line F ml me) (ok_lineT F ml me) fun vs H Q E h => ?_
  obtain ⟨a, ns, e, hA | hA, hp, q⟩ := h
  · exact .inl ⟨a, ns, e, hA, hp, q⟩
  · exact .inr ⟨a, ns, e, hA, hp, q⟩
theorem ok_slopes {f : Addr} {fd : FuncData} (F : Fun K "slopes_of" "slopes_of" sSlopes f fd) (ml : mg "len" = none) (mr : mg "range" = none) : FnOk P w K mg base CX0 1 f fd ["line"] (spNew K (fun ns => ns.length ≤ 1000) mSlopes) := by
  refine F.ok scSl (fun vs H Q E h => ?_) (fun cdv A outer s H vs Q E hr h => ?_)
  · obtain ⟨a, ns, rfl, _⟩ := h
    rfl
  · obtain ⟨a, ns, rfl, hS, hlen, q⟩ := h
    refine ⟨_, pss_one (ps_ret (pe_lc (own := [("piece", 1)]) (g := gName 1) (tt := tYes) rfl scSl.nd
        (pi_range1 (by rfl) mr (pa_cons (pe_op op_sub (pe_callB call_len_seq (by rfl) ml PySem.boot_len (pa_cons (pv 0) pa_nil)) pe_int) pa_nil))
        (blkOk_by (N := ["line", "piece"]) (sc := defScope sSlopes) (by decide +kernel)) (fun _ _ _ _ _ => pg_name (i := 1) scSl.nd rfl (Or.inl rfl)) (fun _ _ _ _ _ => pts_nil)
        (te := tOp (rI0 fun i j => .int (i - j)) (tOp (rIxL K) (tVar 0) (tOp (rI0 fun i j => .int (i + j)) (tVar 1) (tC (.int 1)))) (tOp (rIxL K) (tVar 0) (tVar 1)))
        (fun _ _ _ _ _ => pe_op op_sub (pe_ix ix_list (pv 0) (pe_op op_add (pv 1) pe_int) (fun _ _ => rfl)) (pe_ix ix_list (pv 0) (pv 1) (fun _ _ => rfl))))), ?_⟩
    refine ⟨_, rfl, a, _, rfl, .inl hS, _, _, rfl, rfl, _, rfl, ?_, ?_, fun D1 n1 => ?_⟩
    · rw [List.length_map]; omega
    · rw [List.length_map]; omega
    have hn : (((ivs ns).length : Int) - 1).toNat = ns.length - 1 := by rw [List.length_map]; omega
    rw [hn]
    refine lc_range (lo := 0) (n := ns.length - 1) (fun i H' => Same H H' ∧ H' D1 = some (.lst (ivs ((List.range i).map fun i => ns.getD (i + 1) 0 - ns.getD i 0)))) ⟨same_new n1, upd_same⟩ ?_ ?_
    · rintro i H' hi ⟨sm, hD⟩
      refine ⟨rfl, ?_⟩
      have e0 : (0 : Int) + (i : Int) = ((i : Nat) : Int) := by omega
      have e1 : (0 : Int) + (i : Int) + 1 = ((i + 1 : Nat) : Int) := by omega
      refine ⟨_, rfl, _, rfl, _, _, rfl, rfl, a, _, _, V.int (ns.getD (i + 1) 0), rfl, rfl, sm.seq hS, ?_, _, rfl, _, rfl, a, _, _, V.int (ns.getD i 0), rfl, rfl, sm.seq hS, ?_, _, _, rfl, rfl, _, hD, ?_, same_at sm n1, ?_⟩
      · rw [e1]; exact atI_nat (ivs_at (getD_at (by omega)))
      · rw [e0]; exact atI_nat (ivs_at (getD_at (by omega)))
      · apply small; simp; omega
      · rw [upd_same, range_more]; unfold ivs; rw [List.map_append]; rfl
    · rintro H1 ⟨sm, hD⟩
      exact q H1 D1 sm n1 hD
def spShifts (K : PySem.W.Frag) : Sp := fun vs H Q _ => ∃ (a b : Addr) (ns ms : List Int), vs = [.ref a, .ref b] ∧ SqL K H a (ivs ns) ∧ SqL K H b (ivs ms) ∧ ms.length ≤ ns.length ∧ ns.length ≤ 1000 ∧
  ∀ (H' : Hp) (p : Addr), Same H H' → H p = none → H' p = some (.lst (ivs (mShifts ns ms))) → Q (.ref p) H'
theorem ok_shifts {f : Addr} {fd : FuncData} (F : Fun K "shifts_of" "shifts_of" sShifts f fd) (me : mg "enumerate" = none) : FnOk P w K mg base CX0 1 f fd ["line", "slopes"] (spShifts K) := by
  refine F.ok scSh (fun vs H Q E h => ?_) (fun cdv A outer s H vs Q E hr h => ?_)
  · obtain ⟨a, b, ns, ms, rfl, _⟩ := h
    rfl
  · obtain ⟨a, b, ns, ms, rfl, hS, hM, hle, hlen, q⟩ := h
    refine ⟨_, pss_one (ps_ret (pe_lc (own := [("piece", 2), ("slope", 3)]) (g := gTup K 2 (gCons (gName 2) (gCons (gName 3) gNil))) (tt := tYes) rfl scSh.nd
        (pi_enum (by rfl) me (pa_cons (pv 1) pa_nil))
        (blkOk_by (N := ["line", "slopes", "piece", "slope"]) (sc := defScope sShifts) (by decide +kernel))
        (fun _ _ _ _ _ => pg_tup rfl (pgs_cons (pg_name (i := 2) scSh.nd rfl (Or.inl rfl)) (pgs_cons (pg_name (i := 3) scSh.nd rfl (Or.inl rfl)) pgs_nil))) (fun _ _ _ _ _ => pts_nil)
        (te := tOp (rI0 fun i j => .int (i - j)) (tOp (rIxL K) (tVar 0) (tVar 2)) (tOp (rI CMul fun i j => .int (i * j)) (tVar 3) (tVar 2)))
        (fun _ _ _ _ _ => pe_op op_sub (pe_ix ix_list (pv 0) (pv 2) (fun _ _ => rfl)) (pe_op op_mul (pv 3) (pv 2))))), ?_⟩
    refine ⟨_, rfl, b, _, rfl, hM, fun D1 n1 => ?_⟩
    refine lc_it (walk_enum (K := K) (a := b) (xs := ivs ms)) (fun i H' => Same H H' ∧ H' D1 = some (.lst (ivs ((List.range i).map fun i => ns.getD i 0 - ms.getD i 0 * i)))) ⟨same_new n1, upd_same⟩ (fun i H' _ h => h.1.seq hM) ?_ ?_
    · rintro i x H' H2 hi ⟨sm, hD⟩ ⟨T, x1, x2, rfl, nT, rfl, e1, e2⟩
      rw [List.length_map] at hi
      obtain ⟨z, hz, rfl⟩ := ivs_get e2
      cases Option.some.inj e1
      have hz' : z = ms.getD i 0 := by rw [getD_at hi] at hz; exact (Option.some.inj hz).symm
      subst hz'
      have sT : Same H' (upd H' T (.tup [V.int (i : Int), V.int (ms.getD i 0)])) := same_new nT
      refine ⟨T, _, rfl, .inl (.inl upd_same), rfl, _, _, rfl, _, _, rfl, rfl, rfl, ?_⟩
      refine ⟨_, rfl, _, rfl, a, _, _, V.int (ns.getD i 0), rfl, rfl, (sm.trans sT).seq hS, atI_nat (ivs_at (getD_at (by omega))), _, rfl, _, rfl, _, _, rfl, rfl, .inr ?_, _, _, rfl, rfl, _, sT _ _ hD, ?_, same_at (sm.trans sT) n1, ?_⟩
      · constructor <;> omega
      · apply small; simp; omega
      · rw [upd_same, range_more]; unfold ivs; rw [List.map_append]; rfl
    · rintro H1 ⟨sm, hD⟩
      rw [List.length_map] at hD
      exact q H1 D1 sm n1 hD
def spCovers (K : PySem.W.Frag) : Sp := fun vs H Q _ => ∃ (a : Addr) (ns : List Int), vs = [.ref a] ∧ SqL K H a (ivs ns) ∧ okLine ns ∧
  ∀ (H' : Hp) (p : Addr) (as : List Addr), Same H H' → H p = none → H' p = some (.lst (as.map V.ref)) → Rows H' as (mCovers ns) → Q (.ref p) H'
theorem mCover_ok {ns : List Int} (h : okLine ns) {i : Nat} (hi : i + 1 < ns.length) : RgOk (if ns.getD (i + 1) 0 < ns.getD i 0 then ns.getD (i + 1) 0 else ns.getD i 0) (if ns.getD (i + 1) 0 > ns.getD i 0 then ns.getD (i + 1) 0 else ns.getD i 0) := by
  have h1 := h.at (i := i) (by omega)
  have h2 := h.at hi
  have h3 := h.1
  unfold RgOk
  split <;> split <;> omega
theorem ok_covers {f : Addr} {fd : FuncData} (F : Fun K "covers_of" "covers_of" sCovers f fd) (ml : mg "len" = none) (mr : mg "range" = none) (mi : mg "min" = none) (ma : mg "max" = none) (mli : mg "list" = none) : FnOk P w K mg base CX0 1 f fd ["line"] (spCovers K) := by
  refine F.ok scCo (fun vs H Q E h => ?_) (fun cdv A outer s H vs Q E hr h => ?_)
  · obtain ⟨a, ns, rfl, _⟩ := h
    rfl
  · obtain ⟨a, ns, rfl, hS, hok, q⟩ := h
    refine ⟨_, pss_cons (ps_set (i := 1) scCo.nd rfl (Or.inl rfl) (pe_lst pa_nil))
      (pss_cons (ps_for PassesOwn.never rfl (pi_range1 (by rfl) mr (pa_cons (pe_op op_sub (pe_callB call_len_seq (by rfl) ml PySem.boot_len (pa_cons (pv 0) pa_nil)) pe_int) pa_nil)) (pg_name (i := 2) scCo.nd rfl (Or.inl rfl))
        (pss_cons (ps_set (i := 3) scCo.nd rfl (Or.inl rfl) (pe_callB (call_min2 rfl) (by rfl) mi (by decide +kernel) (pa_cons (pe_ix ix_list (pv 0) (pv 2) (fun _ _ => rfl)) (pa_cons (pe_ix ix_list (pv 0) (pe_op op_add (pv 2) pe_int) (fun _ _ => rfl)) pa_nil))))
        (pss_cons (ps_set (i := 4) scCo.nd rfl (Or.inl rfl) (pe_callB (call_max2 rfl) (by rfl) ma (by decide +kernel) (pa_cons (pe_ix ix_list (pv 0) (pv 2) (fun _ _ => rfl)) (pa_cons (pe_ix ix_list (pv 0) (pe_op op_add (pv 2) pe_int) (fun _ _ => rfl)) pa_nil))))
        (pss_one (ps_expr (pe_bm PySem.F.plainAttrs_list PySem.F.slot_list_append PySem.F.type_list_append mt_append (pv 1) (pa_cons (pe_listRg rfl (by rfl) mli (prg_2 (by rfl) mr (pv 3) (pv 4))) pa_nil)))))))
      (pss_one (ps_ret (pv 1)))), ?_⟩
    refine ⟨Nat.zero_le _, fun p np => ?_⟩
    have s1 : Same H (upd H p (.lst [])) := same_new np
    have hL := hok.1
    refine ⟨_, rfl, a, _, rfl, .inl (s1.seq hS), _, _, rfl, rfl, _, rfl, ?_, ?_, ?_⟩
    · rw [List.length_map]; omega
    · rw [List.length_map]; omega
    have hn : (((ivs ns).length : Int) - 1).toNat = ns.length - 1 := by rw [List.length_map]; omega
    rw [hn]
    refine for_range (lo := 0) (n := ns.length - 1) (fun i σ H' => ∃ y2 y3 y4 as, σ = [some (.ref a), some (.ref p), y2, y3, y4] ∧ Same H H' ∧ H' p = some (.lst (as.map V.ref)) ∧ (∀ b ∈ as, b ≠ p) ∧ Rows H' as ((List.range i).map (mCover ns))) ?_ ?_ ?_
    · exact ⟨none, none, none, [], rfl, s1, upd_same, by simp, Rows.nil _⟩
    · rintro i σ H' hi ⟨y2, y3, y4, as, rfl, sm, hp, hne, hR⟩
      have e0 : (0 : Int) + (i : Int) = ((i : Nat) : Int) := by omega
      have e1 : (0 : Int) + (i : Int) + 1 = ((i + 1 : Nat) : Int) := by omega
      have hA : SqL K H' a (ivs ns) := sm.seq hS
      have g0 : atI (ivs ns) ((0 : Int) + (i : Int)) = some (V.int (ns.getD i 0)) := by rw [e0]; exact atI_nat (ivs_at (getD_at (by omega)))
      have g1 : atI (ivs ns) ((0 : Int) + (i : Int) + 1) = some (V.int (ns.getD (i + 1) 0)) := by rw [e1]; exact atI_nat (ivs_at (getD_at (by omega)))
      refine ⟨_, rfl, _, rfl, a, _, _, _, rfl, rfl, hA, g0, _, rfl, _, rfl, _, _, rfl, rfl, a, _, _, _, rfl, rfl, hA, g1, _, _, rfl, ?_⟩
      refine ⟨_, rfl, _, rfl, a, _, _, _, rfl, rfl, hA, g0, _, rfl, _, rfl, _, _, rfl, rfl, a, _, _, _, rfl, rfl, hA, g1, _, _, rfl, ?_⟩
      refine ⟨_, rfl, .inl ⟨rfl, _, SqL.of hp⟩, _, rfl, _, rfl, _, _, rfl, rfl, mCover_ok hok (by omega), fun l nl => ?_⟩
      have sl : Same H' (upd H' l (.lst (rgV (if ns.getD (i + 1) 0 < ns.getD i 0 then ns.getD (i + 1) 0 else ns.getD i 0) (if ns.getD (i + 1) 0 > ns.getD i 0 then ns.getD (i + 1) 0 else ns.getD i 0)))) := same_new nl
      have hlp : p ≠ l := ne_of_none hp nl
      refine ⟨p, _, _, rfl, rfl, sl _ _ hp, ?_, ?_⟩
      · apply small
        rw [List.length_map, hR.1, List.length_map, List.length_range]
        omega
      · refine ⟨_, _, _, as ++ [l], rfl, same_at (sm.trans sl) np, ?_, ?_, ?_⟩
        · rw [upd_same, List.map_append]; rfl
        · intro b hb
          rcases List.mem_append.1 hb with hb | hb
          · exact hne b hb
          · rw [List.mem_singleton.1 hb]; exact hlp.symm
        · rw [range_more]
          refine Rows.upd (Rows.add (hR.same sl) ?_) ?_
          · rw [upd_same, rgV_eq]; rfl
          · intro b hb
            rcases List.mem_append.1 hb with hb | hb
            · exact hne b hb
            · rw [List.mem_singleton.1 hb]; exact hlp.symm
    · rintro σ H' ⟨y2, y3, y4, as, rfl, sm, hp, hne, hR⟩
      exact ⟨_, rfl, q H' p as sm np hp hR⟩
end
end Rt

set_option Elab.async false
set_option maxRecDepth 100000
set_option maxHeartbeats 2000000
namespace Rt
open PySem PySem.Spec PyProof.Rows L2
theorem scWa : FnScope ["start", "covers", "steps", "ways", "length", "longer", "way", "piece"] ["start", "covers", "steps"] (defScope sWays) := ⟨rfl, rfl, rfl, by decide +kernel, rfl, by decide +kernel, by decide +kernel⟩
abbrev nz (l : List Nat) : List Int := l.map fun (n : Nat) => (n : Int)
abbrev nzz (L : List (List Nat)) : List (List Int) := L.map nz
def longerOf (start : Nat) (C : List (List Nat)) (m : Nat) (way : List Nat) : List (List Nat) := ((C.getD (way.getD m 0) []).filter fun p => decide (start ≤ p)).map fun p => way ++ [p]
def waysM (start : Nat) (C : List (List Nat)) : Nat → List (List Nat)
  | 0 => [[start]]
  | m + 1 => (waysM start C m).flatMap (longerOf start C m)
def waysR (start : Nat) (C : List (List Nat)) (k : Nat) : List (List Nat) := (waysM start C (k - 1)).filter fun way => (C.getD (way.getD (k - 1) 0) []).contains start
structure OkC (start : Nat) (C : List (List Nat)) : Prop where
  n : C.length ≤ 6
  s : start < C.length
  row : ∀ r ∈ C, r.length ≤ 6 ∧ ∀ x ∈ r, x < C.length
theorem OkC.at {start C} (h : OkC start C) (q : Nat) : (C.getD q []).length ≤ 6 ∧ ∀ x ∈ C.getD q [], x < C.length := by
  rw [List.getD_eq_getElem?_getD]
  cases e : C[q]? with
  | none => simp
  | some r => exact h.row r (List.mem_of_getElem? e)
theorem waysM_ok {start C} (h : OkC start C) : ∀ m, ∀ w ∈ waysM start C m, w.length = m + 1 ∧ ∀ x ∈ w, x < C.length
  | 0, w, hw => by
    have e := List.mem_singleton.1 hw
    subst e
    exact ⟨rfl, fun x hx => by rw [List.mem_singleton.1 hx]; exact h.s⟩
  | m + 1, w, hw => by
    obtain ⟨v, hv, hw⟩ := List.mem_flatMap.1 hw
    obtain ⟨p, hp, rfl⟩ := List.mem_map.1 hw
    obtain ⟨h1, h2⟩ := waysM_ok h m v hv
    refine ⟨by simp [h1], fun x hx => ?_⟩
    rcases List.mem_append.1 hx with hx | hx
    · exact h2 x hx
    · rw [List.mem_singleton.1 hx]
      exact (h.at _).2 p (List.mem_filter.1 hp).1
theorem longer_len {start C} (h : OkC start C) (m : Nat) (w : List Nat) : (longerOf start C m w).length ≤ 6 := by
  unfold longerOf
  rw [List.length_map]
  exact Nat.le_trans (List.length_filter_le _ _) (h.at _).1
theorem flat_len {α β : Type} (f : α → List β) (c : Nat) : ∀ l : List α, (∀ x, (f x).length ≤ c) → (l.flatMap f).length ≤ l.length * c
  | [], _ => by simp
  | x :: l, h => by
    rw [List.flatMap_cons, List.length_append, List.length_cons, Nat.add_mul, Nat.one_mul]
    have := flat_len f c l h
    have := h x
    omega
theorem waysM_len {start C} (h : OkC start C) : ∀ m, (waysM start C m).length ≤ 6 ^ m
  | 0 => by simp [waysM]
  | m + 1 => by
    have h1 := flat_len (longerOf start C m) 6 (waysM start C m) (longer_len h m)
    have h2 := waysM_len h m
    show ((waysM start C m).flatMap (longerOf start C m)).length ≤ 6 ^ (m + 1)
    rw [Nat.pow_succ]
    have := Nat.mul_le_mul_right 6 h2
    omega
theorem Rows.app {H : Hp} {as bs : List Addr} {L M : List (List Int)} (r : Rows H as L) (q : Rows H bs M) : Rows H (as ++ bs) (L ++ M) := by
  refine ⟨by simp [r.1, q.1], fun i a m h1 h2 => ?_⟩
  by_cases hi : i < as.length
  · rw [List.getElem?_append_left hi] at h1
    rw [List.getElem?_append_left (by rw [← r.1]; exact hi)] at h2
    exact r.2 i a m h1 h2
  · rw [List.getElem?_append_right (by omega)] at h1
    rw [List.getElem?_append_right (by rw [← r.1]; omega)] at h2
    rw [← r.1] at h2
    exact q.2 _ a m h1 h2
theorem Rows.get {H : Hp} {as : List Addr} {L : List (List Int)} (r : Rows H as L) {i : Nat} {v : V} (h : (as.map V.ref)[i]? = some v) : ∃ a l, v = .ref a ∧ as[i]? = some a ∧ L[i]? = some l ∧ H a = some (.lst (ivs l)) := by
  rw [List.getElem?_map] at h
  cases e : as[i]? with
  | none => rw [e] at h; cases h
  | some a =>
    rw [e] at h
    have hi : i < L.length := by
      rw [← r.1]
      exact (List.getElem?_eq_some_iff.1 e).1
    refine ⟨a, L[i], (Option.some.inj h).symm, rfl, List.getElem?_eq_getElem hi, r.2 i a _ e (List.getElem?_eq_getElem hi)⟩
theorem nz_at {l : List Nat} {i : Nat} (h : i < l.length) : (ivs (nz l))[i]? = some (V.int (l.getD i 0 : Nat)) := by
  rw [List.getElem?_map, List.getElem?_map, List.getD_eq_getElem?_getD, List.getElem?_eq_getElem h]; rfl
theorem nz_get {l : List Nat} {i : Nat} {v : V} (h : (ivs (nz l))[i]? = some v) : ∃ n, l[i]? = some n ∧ v = V.int (n : Nat) := by
  obtain ⟨z, hz, rfl⟩ := ivs_get h
  rw [List.getElem?_map] at hz
  cases e : l[i]? with
  | none => rw [e] at hz; cases hz
  | some n => rw [e] at hz; exact ⟨n, rfl, by rw [← Option.some.inj hz]⟩
section
variable {P : Program} {w : World} {K : PySem.W.Frag} {mg : Str → Option Value} {base : Heap}
def spWays : Sp := fun vs H Q _ => ∃ (start k : Nat) (c : Addr) (cs : List Addr) (C : List (List Nat)), vs = [.int start, .ref c, .int k] ∧ H c = some (.lst (cs.map V.ref)) ∧ Rows H cs (nzz C) ∧ OkC start C ∧ 1 ≤ k ∧ k ≤ 6 ∧
  ∀ (H' : Hp) (p : Addr) (ws : List Addr), Same H H' → H p = none → H' p = some (.lst (ws.map V.ref)) → Rows H' ws (nzz (waysR start C k)) → Q (.ref p) H'
theorem ok_ways {f : Addr} {fd : FuncData} (F : Fun K "ways_round" "ways_round" sWays f fd) (mr : mg "range" = none) : FnOk P w K mg base CX0 1 f fd ["start", "covers", "steps"] spWays := by
  refine F.ok scWa (fun vs H Q E h => ?_) (fun cdv A outer s H vs Q E hr h => ?_)
  · obtain ⟨start, k, c, cs, C, rfl, _⟩ := h
    rfl
  · obtain ⟨start, k, c, cs, C, rfl, hc, hC, ok, hk1, hk6, q⟩ := h
    refine ⟨_, pss_cons (ps_set (i := 3) scWa.nd rfl (Or.inl rfl) (pe_lst (pa_cons (pe_lst (pa_cons (pv 0) pa_nil)) pa_nil)))
      (pss_cons (ps_for PassesOwn.never rfl (pi_range2 (by rfl) mr (pa_cons pe_int (pa_cons (pv 2) pa_nil))) (pg_name (i := 4) scWa.nd rfl (Or.inl rfl))
        (pss_cons (ps_set (i := 5) scWa.nd rfl (Or.inl rfl) (pe_lst pa_nil))
        (pss_cons (ps_for PassesOwn.never rfl (pi_list (pv 3)) (pg_name (i := 6) scWa.nd rfl (Or.inr rfl))
          (pss_one (ps_expr (pe_bm PySem.F.plainAttrs_list PySem.F.slot_list_extend PySem.F.type_list_extend mt_extend (pv 5) (pa_cons
            (pe_lc (own := [("piece", 7)]) (g := gName 7) (tt := tTest (tOp (rI0 fun i j => V.bl (decide (j ≤ i))) (tVar 7) (tVar 0))) rfl scWa.nd
              (pi_list (pe_ix ix_list (pv 1) (pe_ix ix_list (pv 6) (pe_op op_sub (pv 4) pe_int) (fun _ _ => rfl)) (fun _ _ => rfl)))
              (blkOk_by (N := ["start", "covers", "steps", "ways", "length", "longer", "way", "piece"]) (sc := defScope sWays) (by decide +kernel))
              (fun _ _ _ _ _ => pg_name (i := 7) scWa.nd rfl (Or.inl rfl)) (fun _ _ _ _ _ => pts_one (pt_cmpR op_ge (pv 7) (pv 0) (nomark _)))
              (fun _ _ _ _ _ => pe_op op_cat (pv 6) (pe_lst (pa_cons (pv 7) pa_nil)))) pa_nil)))))
        (pss_one (ps_set (i := 3) scWa.nd rfl (Or.inl rfl) (pv 5))))))
      (pss_one (ps_ret (pe_lc (own := [("way", 6)]) (g := gName 6) (tt := tTest (tOp (rIn K false) (tVar 0) (tOp (rIxL K) (tVar 1) (tOp (rIxL K) (tVar 6) (tOp (rI0 fun i j => .int (i - j)) (tVar 2) (tC (.int 1))))))) rfl scWa.nd
        (pi_list (pv 3)) (blkOk_by (N := ["start", "covers", "steps", "ways", "length", "longer", "way", "piece"]) (sc := defScope sWays) (by decide +kernel))
        (fun _ _ _ _ _ => pg_name (i := 6) scWa.nd rfl (Or.inl rfl))
        (fun _ _ _ _ _ => pts_one (pt_cmpR op_in_seq (pv 0) (pe_ix ix_list (pv 1) (pe_ix ix_list (pv 6) (pe_op op_sub (pv 2) pe_int) (fun _ _ => rfl)) (fun _ _ => rfl)) (by rfl)))
        (fun _ _ _ _ _ => pv 6))))), ?_⟩
    have hCat : ∀ (H' : Hp), Same H H' → ∀ q, q < C.length → ∃ r, atI (cs.map V.ref) (q : Nat) = some (.ref r) ∧ H' r = some (.lst (ivs (nz (C.getD q [])))) := by
      intro H' sm q hq
      have hq1 : q < cs.length := by rw [hC.1, List.length_map]; exact hq
      refine ⟨cs[q], atI_nat ?_, ?_⟩
      · rw [List.getElem?_map, List.getElem?_eq_getElem hq1]; rfl
      · refine (hC.same sm).2 q _ _ (List.getElem?_eq_getElem hq1) ?_
        rw [List.getElem?_map, List.getD_eq_getElem?_getD, List.getElem?_eq_getElem hq]; rfl
    -- ways = [[start]]
    refine ⟨_, rfl, by show 1 ≤ sizeLine; decide, fun w0 nw0 => ?_⟩
    refine ⟨by show 1 ≤ sizeLine; decide, fun wsA nws => ?_⟩
    have s0 : Same H (upd H w0 (.lst [.int start])) := same_new nw0
    have s1 : Same H (upd (upd H w0 (.lst [.int start])) wsA (.lst [.ref w0])) := s0.trans (same_new nws)
    have hw0 : wsA ≠ w0 := (ne_of_none upd_same nws).symm
    refine ⟨_, rfl, 1, k, rfl, ⟨by omega, by omega, by omega, by omega⟩, ?_⟩
    have hn : ((k : Int) - 1).toNat = k - 1 := by omega
    rw [hn]
    refine for_range (lo := 1) (n := k - 1) (fun i σ H' => ∃ wsA ws y4 y5 y6, σ = [some (.int start), some (.ref c), some (.int k), some (.ref wsA), y4, y5, y6, none] ∧ Same H H' ∧ H' wsA = some (.lst (ws.map V.ref)) ∧ Rows H' ws (nzz (waysM start C i))) ?_ ?_ ?_
    · refine ⟨wsA, [w0], none, none, none, rfl, s1, upd_same, ?_⟩
      have := Rows.add (Rows.nil (upd (upd H w0 (.lst [.int start])) wsA (.lst [.ref w0]))) (p := w0) (l := [(start : Int)]) (by rw [upd_ne hw0.symm, upd_same]; rfl)
      exact this
    · rintro i σ H' hi ⟨wsA, ws, y4, y5, y6, rfl, sm, hws, hW⟩
      refine ⟨Nat.zero_le _, fun lo nlo => ?_⟩
      have slo : Same H' (upd H' lo (.lst [])) := same_new nlo
      refine ⟨_, rfl, wsA, rfl, ⟨_, SqL.of (slo _ _ hws)⟩, ?_⟩
      refine for_list (K := K) (a := wsA) (xs := ws.map V.ref) (fun j σ H2 => ∃ ls y6, σ = [some (.int start), some (.ref c), some (.int k), some (.ref wsA), some (.int (1 + (i : Int))), some (.ref lo), y6, none] ∧ Same H' H2 ∧ H2 lo = some (.lst (ls.map V.ref)) ∧ (∀ b ∈ ls, b ≠ lo) ∧ Rows H2 ls (nzz (((waysM start C i).take j).flatMap (longerOf start C i)))) ?_ ?_ ?_ ?_
      · exact ⟨[], y6, rfl, slo, upd_same, by simp, Rows.nil _⟩
      · rintro j σ H2 _ ⟨ls, y6, rfl, sm2, _⟩
        exact SqL.of (sm2 _ _ hws)
      · rintro j x σ H2 hx ⟨ls, y6, rfl, sm2, hlo, hne, hL⟩
        obtain ⟨wj, l, rfl, hj1, hj2, hwj⟩ := (hW.same sm2).get hx
        have hj3 : j < (waysM start C i).length := by
          have := (List.getElem?_eq_some_iff.1 hj2).1
          rwa [List.length_map] at this
        have hl : l = nz ((waysM start C i)[j]) := by
          rw [List.getElem?_map, List.getElem?_eq_getElem hj3] at hj2
          exact (Option.some.inj hj2).symm
        subst hl
        have hmem : (waysM start C i)[j] ∈ waysM start C i := List.getElem_mem hj3
        have hgj : (waysM start C i)[j]? = some (waysM start C i)[j] := List.getElem?_eq_getElem hj3
        obtain ⟨hwl, hwb⟩ := waysM_ok ok i _ hmem
        generalize (waysM start C i)[j] = way at *
        have hq : way.getD i 0 < C.length := hwb _ (by rw [List.getD_eq_getElem?_getD, List.getElem?_eq_getElem (show i < way.length by omega)]; exact List.getElem_mem _)
        obtain ⟨r, hr1, hr2⟩ := hCat H2 (sm.trans sm2) _ hq
        have hrow := ok.at (way.getD i 0)
        have e1 : (1 : Int) + (i : Int) - 1 = ((i : Nat) : Int) := by omega
        refine ⟨_, rfl, .inl ⟨rfl, _, SqL.of hlo⟩, ?_⟩
        refine ⟨_, rfl, _, rfl, _, rfl, _, _, rfl, rfl, wj, _, _, V.int (way.getD i 0 : Nat), rfl, rfl, SqL.of hwj, by rw [e1]; exact atI_nat (nz_at (by omega)), c, _, _, _, rfl, rfl, SqL.of (sm2 _ _ (sm _ _ hc)), hr1, r, rfl, ⟨_, SqL.of hr2⟩, fun D nD => ?_⟩
        generalize hrowe : C.getD (way.getD i 0) [] = row at *
        have hDlo : lo ≠ D := ne_of_none hlo nD
        refine lc_list (K := K) (a := r) (xs := ivs (nz row)) (fun m H3 => Same H2 H3 ∧ ∃ bs, H3 D = some (.lst (bs.map V.ref)) ∧ (∀ b ∈ bs, b ≠ D ∧ b ≠ lo) ∧ Rows H3 bs (nzz (((row.take m).filter fun p => decide (start ≤ p)).map fun p => way ++ [p]))) ?_ ?_ ?_ ?_
        · exact ⟨same_new nD, [], upd_same, by simp, Rows.nil _⟩
        · rintro m H3 _ ⟨sm3, _⟩
          exact SqL.of (sm3 _ _ hr2)
        · rintro m x H3 hx ⟨sm3, bs, hD, hbne, hB⟩
          obtain ⟨n, hn1, rfl⟩ := nz_get hx
          refine ⟨rfl, _, rfl, _, rfl, _, _, rfl, rfl, _, rfl, ?_⟩
          refine ifB (fun h => ?_) (fun h => ?_)
          · have hst : start ≤ n := by have := of_decide_eq_true h; omega
            refine ⟨_, rfl, _, rfl, by show 1 ≤ sizeLine; decide, fun t nt => ?_⟩
            have st : Same H3 (upd H3 t (.lst [V.int (n : Int)])) := same_new nt
            refine ⟨wj, t, _, _, rfl, rfl, st _ _ (sm3 _ _ hwj), upd_same, ?_, fun e ne => ?_⟩
            · refine Nat.le_of_lt (small ?_)
              simp only [List.length_map, List.length_cons, List.length_nil]
              omega
            have se := same_new (o := .lst (ivs (nz way) ++ [V.int (n : Int)])) ne
            have hDe : D ≠ e := ne_of_none (st _ _ hD) ne
            have hloe : lo ≠ e := ne_of_none (st _ _ (sm3 _ _ hlo)) ne
            refine ⟨_, se _ _ (st _ _ hD), ?_, same_at (sm3.trans (st.trans se)) nD, bs ++ [e], ?_, ?_, ?_⟩
            · apply small
              rw [List.length_map, hB.1, List.length_map, List.length_map]
              have := List.length_filter_le (fun p => decide (start ≤ p)) (row.take m)
              rw [List.length_take] at this
              omega
            · rw [upd_same, List.map_append]; rfl
            · intro b hb
              rcases List.mem_append.1 hb with hb | hb
              · exact hbne b hb
              · rw [List.mem_singleton.1 hb]; exact ⟨hDe.symm, hloe.symm⟩
            · have er : nzz (((row.take (m + 1)).filter fun p => decide (start ≤ p)).map fun p => way ++ [p]) = nzz (((row.take m).filter fun p => decide (start ≤ p)).map fun p => way ++ [p]) ++ [nz (way ++ [n])] := by
                rw [take_one hn1, List.filter_append, List.filter_cons_of_pos (by simpa using hst), List.filter_nil, List.map_append]
                unfold nzz
                rw [List.map_append]; rfl
              rw [er]
              refine Rows.upd (Rows.add (hB.same (st.trans se)) ?_) ?_
              · rw [upd_same]
                unfold nz ivs
                rw [List.map_append, List.map_append]; rfl
              · intro b hb
                rcases List.mem_append.1 hb with hb | hb
                · exact (hbne b hb).1
                · rw [List.mem_singleton.1 hb]; exact hDe.symm
          · have hst : ¬ start ≤ n := by have := of_decide_eq_false h; omega
            refine ⟨sm3, bs, hD, hbne, ?_⟩
            rw [take_one hn1, List.filter_append, List.filter_cons_of_neg (by simpa using hst), List.filter_nil, List.append_nil]
            exact hB
        · rintro H3 ⟨sm3, bs, hD, hbne, hB⟩
          rw [List.length_map, List.length_map, List.take_length] at hB
          have hB' : Rows H3 bs (nzz (longerOf start C i way)) := by
            unfold longerOf
            rw [hrowe]; exact hB
          have hlen := longer_len ok i way
          refine ⟨lo, D, _, _, rfl, rfl, sm3 _ _ hlo, hD, ?_, ?_⟩
          · refine Nat.le_of_lt (small ?_)
            rw [List.length_map, List.length_map, hB'.1, List.length_map, hL.1, List.length_map]
            have h1 := flat_len (longerOf start C i) 6 ((waysM start C i).take j) (longer_len ok i)
            have h2 := waysM_len ok i
            have h3 : 6 ^ i ≤ 6 ^ 5 := Nat.pow_le_pow_right (by decide) (by omega)
            rw [List.length_take] at h1
            have h4 : min j (waysM start C i).length * 6 ≤ 6 ^ 5 * 6 := Nat.mul_le_mul_right 6 (by omega)
            omega
          · refine ⟨ls ++ bs, _, rfl, ?_, ?_, ?_, ?_⟩
            · intro b o hb
              have hbl : b ≠ lo := ne_of_none hb nlo
              rw [upd_ne hbl]
              exact sm3 _ _ (sm2 _ _ hb)
            · rw [upd_same, List.map_append]
            · intro b hb
              rcases List.mem_append.1 hb with hb | hb
              · exact hne b hb
              · exact (hbne b hb).2
            · have er : nzz (((waysM start C i).take (j + 1)).flatMap (longerOf start C i)) = nzz (((waysM start C i).take j).flatMap (longerOf start C i)) ++ nzz (longerOf start C i way) := by
                rw [take_one hgj, List.flatMap_append]
                unfold nzz
                rw [List.map_append]
                simp
              rw [er]
              refine Rows.upd (Rows.app (hL.same sm3) hB') ?_
              intro b hb
              rcases List.mem_append.1 hb with hb | hb
              · exact hne b hb
              · exact (hbne b hb).2
      · rintro σ H2 ⟨ls, y6, rfl, sm2, hlo, hne, hL⟩
        refine ⟨_, rfl, lo, ls, _, _, _, rfl, sm.trans sm2, hlo, ?_⟩
        rw [List.length_map, hW.1, List.length_map, List.take_length] at hL
        exact hL
    · rintro σ H' ⟨wsA, ws, y4, y5, y6, rfl, sm, hws, hW⟩
      refine ⟨_, rfl, wsA, rfl, ⟨_, SqL.of hws⟩, fun D nD => ?_⟩
      refine lc_list (K := K) (a := wsA) (xs := ws.map V.ref) (fun j H2 => Same H' H2 ∧ ∃ bs, H2 D = some (.lst (bs.map V.ref)) ∧ (∀ b ∈ bs, b ≠ D) ∧ Rows H2 bs (nzz (((waysM start C (k - 1)).take j).filter fun way => (C.getD (way.getD (k - 1) 0) []).contains start))) ?_ ?_ ?_ ?_
      · exact ⟨same_new nD, [], upd_same, by simp, Rows.nil _⟩
      · rintro j H2 _ ⟨sm2, _⟩
        exact SqL.of (sm2 _ _ hws)
      · rintro j x H2 hx ⟨sm2, bs, hD, hbne, hB⟩
        obtain ⟨wj, l, rfl, hj1, hj2, hwj⟩ := (hW.same sm2).get hx
        have hj3 : j < (waysM start C (k - 1)).length := by
          have := (List.getElem?_eq_some_iff.1 hj2).1
          rwa [List.length_map] at this
        have hl : l = nz ((waysM start C (k - 1))[j]) := by
          rw [List.getElem?_map, List.getElem?_eq_getElem hj3] at hj2
          exact (Option.some.inj hj2).symm
        subst hl
        have hmem : (waysM start C (k - 1))[j] ∈ waysM start C (k - 1) := List.getElem_mem hj3
        have hgj : (waysM start C (k - 1))[j]? = some (waysM start C (k - 1))[j] := List.getElem?_eq_getElem hj3
        obtain ⟨hwl, hwb⟩ := waysM_ok ok (k - 1) _ hmem
        generalize (waysM start C (k - 1))[j] = way at *
        have hq : way.getD (k - 1) 0 < C.length := hwb _ (by rw [List.getD_eq_getElem?_getD, List.getElem?_eq_getElem (show k - 1 < way.length by omega)]; exact List.getElem_mem _)
        obtain ⟨r, hr1, hr2⟩ := hCat H2 (sm.trans sm2) _ hq
        have e1 : (k : Int) - 1 = ((k - 1 : Nat) : Int) := by omega
        have hwD : wj ≠ D := ne_of_none ((hW.2 j wj _ hj1 (by rw [List.getElem?_map, hgj]; rfl))) nD
        refine ⟨rfl, _, rfl, _, rfl, _, rfl, _, rfl, _, _, rfl, rfl, wj, _, _, V.int (way.getD (k - 1) 0 : Nat), rfl, rfl, SqL.of hwj, by rw [e1]; exact atI_nat (nz_at (by omega)), c, _, _, _, rfl, rfl, SqL.of (sm2 _ _ (sm _ _ hc)), hr1, r, _, rfl, .inl (SqL.of hr2), rfl, flat_ivs _, _, rfl, ?_⟩
        have hin : inV (V.int (start : Int)) (ivs (nz (C.getD (way.getD (k - 1) 0) []))) = (C.getD (way.getD (k - 1) 0) []).contains start := by
          unfold inV ivs nz
          rw [List.map_map, List.any_map]
          generalize C.getD (way.getD (k - 1) 0) [] = row
          induction row with
          | nil => rfl
          | cons a row ih =>
            rw [List.any_cons, List.contains_cons, ih]
            congr 1
            show ((a : Int) == (start : Int)) = (start == a)
            rw [Bool.eq_iff_iff, beq_iff_eq, beq_iff_eq]
            omega
        refine ifB (fun h => ?_) (fun h => ?_)
        · have hst : (C.getD (way.getD (k - 1) 0) []).contains start = true := by rw [← hin]; exact h
          refine ⟨_, rfl, _, hD, ?_, same_at sm2 nD, bs ++ [wj], ?_, ?_, ?_⟩
          · apply small
            rw [List.length_map, hB.1, List.length_map]
            have h1 := List.length_filter_le (fun way => (C.getD (way.getD (k - 1) 0) []).contains start) ((waysM start C (k - 1)).take j)
            have h2 := waysM_len ok (k - 1)
            have h3 : 6 ^ (k - 1) ≤ 6 ^ 5 := Nat.pow_le_pow_right (by decide) (by omega)
            rw [List.length_take] at h1
            omega
          · rw [upd_same, List.map_append]; rfl
          · intro b hb
            rcases List.mem_append.1 hb with hb | hb
            · exact hbne b hb
            · rw [List.mem_singleton.1 hb]; exact hwD
          · rw [take_one hgj, List.filter_append, List.filter_cons_of_pos (p := fun way : List Nat => (C.getD (way.getD (k - 1) 0) []).contains start) hst, List.filter_nil]
            unfold nzz
            rw [List.map_append]
            refine Rows.upd (Rows.add hB hwj) ?_
            intro b hb
            rcases List.mem_append.1 hb with hb | hb
            · exact hbne b hb
            · rw [List.mem_singleton.1 hb]; exact hwD
        · have hst : ¬ (C.getD (way.getD (k - 1) 0) []).contains start = true := by
            rw [← hin]
            have h' : inV (V.int (start : Int)) (ivs (nz (C.getD (way.getD (k - 1) 0) []))) = false := h
            rw [h']
            exact Bool.false_ne_true
          refine ⟨sm2, bs, hD, hbne, ?_⟩
          rw [take_one hgj, List.filter_append, List.filter_cons_of_neg (p := fun way : List Nat => (C.getD (way.getD (k - 1) 0) []).contains start) hst, List.filter_nil, List.append_nil]
          exact hB
      · rintro H2 ⟨sm2, bs, hD, hbne, hB⟩
        rw [List.length_map, hW.1, List.length_map, List.take_length] at hB
        exact q H2 D bs (sm.trans sm2) (none_of sm nD) hD hB
end
end Rt

set_option Elab.async false
set_option maxRecDepth 100000
set_option maxHeartbeats 2000000
namespace Rt
open PySem PySem.Spec PyProof.Rows L2
theorem scPl : FnScope ["way", "slopes", "shifts", "slope", "shift", "piece", "place", "scale", "places"] ["way", "slopes", "shifts"] (defScope sPlaces) := ⟨rfl, rfl, rfl, by decide +kernel, rfl, by decide +kernel, by decide +kernel⟩
theorem scKi : FnScope ["places", "order", "place"] ["places"] (defScope sKindOf) := ⟨rfl, rfl, rfl, by decide +kernel, rfl, by decide +kernel, by decide +kernel⟩
def accM (S T : List Int) (w : List Nat) : Int × Int := w.foldl (fun z i => (S.getD i 0 * z.1, S.getD i 0 * z.2 + T.getD i 0)) (1, 0)
def stepM (S T : List Int) (D X : Int) (i : Nat) : Int := S.getD i 0 * X + T.getD i 0 * D
def scaleM (z : Int × Int) : Int := if z.1 = 1 then 1 else if 1 - z.1 < 0 then -(1 - z.1) else 1 - z.1
def placeM (z : Int × Int) (w : List Nat) : Int := if z.1 = 1 then (w.headD 0 : Nat) else if z.1 < 1 then z.2 else -z.2
def placesM (S T : List Int) (w : List Nat) : List Int := (List.range w.length).map fun j => (w.take j).foldl (stepM S T (scaleM (accM S T w))) (placeM (accM S T w) w)
section
variable {P : Program} {w : World} {K : PySem.W.Frag} {mg : Str → Option Value} {base : Heap}
def spPlaces (K : PySem.W.Frag) : Sp := fun vs H Q _ => ∃ (a b c : Addr) (w : List Nat) (S T : List Int), vs = [.ref a, .ref b, .ref c] ∧ SqL K H a (ivs (nz w)) ∧ SqL K H b (ivs S) ∧ SqL K H c (ivs T) ∧ w ≠ [] ∧ w.length ≤ 1000 ∧ (∀ i ∈ w, i < S.length ∧ i < T.length) ∧ (∀ x ∈ S, -1000 ≤ x ∧ x ≤ 1000) ∧ (∀ x ∈ T, -1000000 ≤ x ∧ x ≤ 1000000) ∧
  ∀ (H' : Hp) (p : Addr), Same H H' → H p = none → H' p = some (.lst (ivs (placesM S T w))) → Q (.ref p) H'
theorem foldl_more {α : Type} {l : List Nat} {i n : Nat} (f : α → Nat → α) (a : α) (h : l[i]? = some n) : (l.take (i + 1)).foldl f a = f ((l.take i).foldl f a) n := by
  rw [take_one h, List.foldl_append]; rfl
theorem ok_places {f : Addr} {fd : FuncData} (F : Fun K "places_along" "places_along" sPlaces f fd) (mab : mg "abs" = none) : FnOk P w K mg base CX0 1 f fd ["way", "slopes", "shifts"] (spPlaces K) := by
  refine F.ok scPl (fun vs H Q E h => ?_) (fun cdv A outer s H vs Q E hr h => ?_)
  · obtain ⟨a, b, c, w, S, T, rfl, _⟩ := h
    rfl
  · obtain ⟨a, b, c, w, S, T, rfl, hA, hB, hC, hne, hlen, hin, hbS, hbT, q⟩ := h
    refine ⟨_, pss_cons (ps_set (i := 3) scPl.nd rfl (Or.inl rfl) pe_int) (pss_cons (ps_set (i := 4) scPl.nd rfl (Or.inl rfl) pe_int)
      (pss_cons (ps_for PassesOwn.never rfl (pi_list (pv 0)) (pg_name (i := 5) scPl.nd rfl (Or.inl rfl))
        (pss_cons (ps_set (i := 3) scPl.nd rfl (Or.inl rfl) (pe_op op_mul (pe_ix ix_list (pv 1) (pv 5) (fun _ _ => rfl)) (pv 3)))
        (pss_one (ps_set (i := 4) scPl.nd rfl (Or.inl rfl) (pe_op op_add (pe_op op_mul (pe_ix ix_list (pv 1) (pv 5) (fun _ _ => rfl)) (pv 4)) (pe_ix ix_list (pv 2) (pv 5) (fun _ _ => rfl)))))))
      (pss_cons (ps_set (i := 6) scPl.nd rfl (Or.inl rfl) (pe_ifExp (pt_cmpR op_lt (pv 3) pe_int (nomark _)) (pv 4) (pe_un un_neg (pv 4))))
      (pss_cons (ps_set (i := 7) scPl.nd rfl (Or.inl rfl) (pe_callB call_abs (by rfl) mab (by decide +kernel) (pa_cons (pe_op op_sub pe_int (pv 3)) pa_nil)))
      (pss_cons (ps_if (pt_cmpR op_eq (pv 3) pe_int (nomark _)) (pss_cons (ps_set (i := 6) scPl.nd rfl (Or.inl rfl) (pe_ix ix_list (pv 0) pe_int (fun _ _ => rfl))) (pss_one (ps_set (i := 7) scPl.nd rfl (Or.inl rfl) pe_int))) pss_nil)
      (pss_cons (ps_set (i := 8) scPl.nd rfl (Or.inl rfl) (pe_lst pa_nil))
      (pss_cons (ps_for PassesOwn.never rfl (pi_list (pv 0)) (pg_name (i := 5) scPl.nd rfl (Or.inl rfl))
        (pss_cons (ps_expr (pe_bm PySem.F.plainAttrs_list PySem.F.slot_list_append PySem.F.type_list_append mt_append (pv 8) (pa_cons (pv 6) pa_nil)))
        (pss_one (ps_set (i := 6) scPl.nd rfl (Or.inl rfl) (pe_op op_add (pe_op op_mul (pe_ix ix_list (pv 1) (pv 5) (fun _ _ => rfl)) (pv 6)) (pe_op op_mul (pe_ix ix_list (pv 2) (pv 5) (fun _ _ => rfl)) (pv 7)))))))
      (pss_one (ps_ret (pv 8)))))))))), ?_⟩
    have gS : ∀ n ∈ w, atI (ivs S) (n : Nat) = some (V.int (S.getD n 0)) ∧ CMul (S.getD n 0) 0 := fun n hn => ⟨atI_nat (ivs_at (getD_at (hin n hn).1)), .inl (by
      have := hbS _ (List.mem_of_getElem? (getD_at (hin n hn).1))
      constructor <;> omega)⟩
    have gT : ∀ n ∈ w, atI (ivs T) (n : Nat) = some (V.int (T.getD n 0)) ∧ -1000000 ≤ T.getD n 0 ∧ T.getD n 0 ≤ 1000000 := fun n hn => ⟨atI_nat (ivs_at (getD_at (hin n hn).2)), hbT _ (List.mem_of_getElem? (getD_at (hin n hn).2))⟩
    have mS : ∀ n ∈ w, ∀ y : Int, CMul (S.getD n 0) y := fun n hn y => .inl (by
      have := hbS _ (List.mem_of_getElem? (getD_at (hin n hn).1))
      constructor <;> omega)
    have mT : ∀ n ∈ w, ∀ y : Int, CMul (T.getD n 0) y := fun n hn y => .inl (by
      have := (gT n hn).2
      constructor <;> omega)
    refine ⟨_, rfl, a, rfl, ⟨_, hA⟩, ?_⟩
    refine for_list (K := K) (a := a) (xs := ivs (nz w)) (fun i σ H' => ∃ y5, σ = [some (.ref a), some (.ref b), some (.ref c), some (.int (accM S T (w.take i)).1), some (.int (accM S T (w.take i)).2), y5, none, none, none] ∧ H' = H) ⟨none, rfl, rfl⟩ (fun i σ H' _ ⟨_, _, e⟩ => by rw [e]; exact hA) ?_ ?_
    · rintro i x σ H' hx ⟨y5, rfl, rfl⟩
      obtain ⟨n, hn1, rfl⟩ := nz_get hx
      have hn := List.mem_of_getElem? hn1
      refine ⟨_, rfl, _, rfl, b, _, _, _, rfl, rfl, hB, (gS n hn).1, _, rfl, _, _, rfl, rfl, mS n hn _, ?_⟩
      refine ⟨_, rfl, _, rfl, b, _, _, _, rfl, rfl, hB, (gS n hn).1, _, rfl, _, _, rfl, rfl, mS n hn _, _, rfl, _, rfl, c, _, _, _, rfl, rfl, hC, (gT n hn).1, _, _, rfl, rfl, ?_⟩
      have e : accM S T (w.take (i + 1)) = (S.getD n 0 * (accM S T (w.take i)).1, S.getD n 0 * (accM S T (w.take i)).2 + T.getD n 0) := foldl_more _ _ hn1
      rw [e]
      exact ⟨_, rfl, rfl⟩
    · rintro σ H' ⟨y5, rfl, rfl⟩
      rw [List.length_map, List.length_map, List.take_length]
      generalize hz : accM S T w = z at *
      have tail : ∀ (X D : Int), X = placeM z w → D = scaleM z → (tSeq (tAsg (tLst tNil) (gName 8)) (tSeq (tFor (iList K (tVar 0)) (gName 5) (tSeq (tDrop (tBM K "list" rAppend (tVar 8) (tCons (tVar 6) tNil))) (tAsg (tOp (rI0 fun i j => .int (i + j)) (tOp (rI CMul fun i j => .int (i * j)) (tOp (rIxL K) (tVar 1) (tVar 5)) (tVar 6)) (tOp (rI CMul fun i j => .int (i * j)) (tOp (rIxL K) (tVar 2) (tVar 5)) (tVar 7))) (gName 6)))) (tRet (tVar 8)))) { nx := fun _ H' => Q .non H', rt := Q } [some (.ref a), some (.ref b), some (.ref c), some (.int z.1), some (.int z.2), y5, some (.int X), some (.int D), none] H' := by
        intro X D hX hD
        refine ⟨Nat.zero_le _, fun p np => ?_⟩
        have s1 : Same H' (upd H' p (.lst [])) := same_new np
        refine ⟨_, rfl, a, rfl, ⟨_, s1.seq hA⟩, ?_⟩
        refine for_list (K := K) (a := a) (xs := ivs (nz w)) (fun i σ H2 => ∃ y5, σ = [some (.ref a), some (.ref b), some (.ref c), some (.int z.1), some (.int z.2), y5, some (.int ((w.take i).foldl (stepM S T D) X)), some (.int D), some (.ref p)] ∧ Same H' H2 ∧ H2 p = some (.lst (ivs ((List.range i).map fun j => (w.take j).foldl (stepM S T D) X)))) ⟨_, rfl, s1, upd_same⟩ (fun i σ H2 _ ⟨_, _, sm, _⟩ => sm.seq hA) ?_ ?_
        · rintro i x σ H2 hx ⟨y5, rfl, sm, hp⟩
          obtain ⟨n, hn1, rfl⟩ := nz_get hx
          have hn := List.mem_of_getElem? hn1
          refine ⟨_, rfl, .inl ⟨rfl, _, SqL.of hp⟩, _, rfl, p, _, _, rfl, rfl, hp, ?_, ?_⟩
          · apply small
            rw [List.length_map, List.length_map, List.length_range]
            have := (List.getElem?_eq_some_iff.1 hn1).1
            omega
          have sp : Same H' (upd H2 p (.lst (ivs ((List.range i).map fun j => (w.take j).foldl (stepM S T D) X) ++ [V.int ((w.take i).foldl (stepM S T D) X)]))) := same_at sm np
          refine ⟨_, rfl, _, rfl, b, _, _, _, rfl, rfl, sp.seq hB, (gS n hn).1, _, rfl, _, _, rfl, rfl, mS n hn _, _, rfl, _, rfl, c, _, _, _, rfl, rfl, sp.seq hC, (gT n hn).1, _, rfl, _, _, rfl, rfl, mT n hn _, _, _, rfl, rfl, ?_⟩
          refine ⟨some (V.int (n : Nat)), ?_, sp, ?_⟩
          · rw [foldl_more _ _ hn1]; rfl
          · rw [upd_same, range_more]; unfold ivs; rw [List.map_append]; rfl
        · rintro σ H2 ⟨y5, rfl, sm, hp⟩
          refine ⟨_, rfl, q H2 p sm np ?_⟩
          rw [hp]
          unfold placesM
          rw [List.length_map, List.length_map, hz, ← hX, ← hD]
      refine ⟨_, rfl, _, _, rfl, rfl, _, rfl, ?_⟩
      refine ifB (fun h => ?_) (fun h => ?_)
      · have h1 : z.1 < 1 := of_decide_eq_true h
        refine ⟨_, rfl, _, rfl, _, _, rfl, rfl, _, rfl, _, rfl, rfl, _, rfl, ?_⟩
        refine ifB (fun h2 => ?_) (fun h2 => ?_)
        · have : V.int z.1 = V.int 1 := of_decide_eq_true h2
          have := V.int.inj this
          omega
        · refine tail _ _ ?_ ?_
          · unfold placeM; rw [if_neg (show ¬ z.1 = 1 by omega), if_pos h1]
          · unfold scaleM; rw [if_neg (show ¬ z.1 = 1 by omega)]
      · have h1 : ¬ z.1 < 1 := of_decide_eq_false h
        refine ⟨_, rfl, _, rfl, _, rfl, _, _, rfl, rfl, _, rfl, _, rfl, rfl, _, rfl, ?_⟩
        refine ifB (fun h2 => ?_) (fun h2 => ?_)
        · have h3 : z.1 = 1 := V.int.inj (of_decide_eq_true h2)
          refine ⟨_, rfl, a, _, _, V.int (w.headD 0 : Nat), rfl, rfl, hA, ?_, ?_⟩
          · cases w with
            | nil => exact absurd rfl hne
            | cons n w => exact atI_nat (j := 0) rfl
          · refine tail _ _ ?_ ?_
            · unfold placeM; rw [if_pos h3]
            · unfold scaleM; rw [if_pos h3]
        · have h3 : ¬ z.1 = 1 := fun e => by
            have := of_decide_eq_false h2
            exact this (by rw [e])
          refine tail _ _ ?_ ?_
          · unfold placeM; rw [if_neg h3, if_neg h1]
          · unfold scaleM; rw [if_neg h3]
end
/-! the kind of places that are all different -/
theorem srt_split {l : List Int} (h : l.Pairwise (· < ·)) {z : Int} (hz : z ∈ l) : l.idxOf z = rank l z := by
  induction l with
  | nil => simp at hz
  | cons a l ih =>
    obtain ⟨h1, h2⟩ := List.pairwise_cons.1 h
    by_cases e : a = z
    · subst e
      rw [List.idxOf_cons_self]
      symm
      rw [rank_zero_iff]
      intro y hy
      rcases List.mem_cons.1 hy with rfl | hy
      · exact Int.le_refl _
      · have := h1 y hy; omega
    · have hz' : z ∈ l := by
        rcases List.mem_cons.1 hz with h | h
        · exact absurd h.symm e
        · exact h
      have : a < z := h1 z hz'
      rw [List.idxOf_cons, show (a == z) = false from beq_eq_false_iff_ne.2 e, cond_false, ih h2 hz']
      unfold rank
      rw [List.filter_cons_of_pos (by simpa using this)]
      rfl
theorem idx_rank {l m : List Int} (hn : l.Nodup) (hp : m.Perm l) (hs : m.Pairwise (· ≤ ·)) {z : Int} (hz : z ∈ l) : m.idxOf z = rank l z := by
  have hlt : m.Pairwise (· < ·) := by
    have hnm : m.Nodup := hp.nodup_iff.2 hn
    rw [List.nodup_iff_pairwise_ne] at hnm
    have := hs.and hnm
    apply this.imp
    intro a b hab
    have := hab.1
    have := hab.2
    omega
  rw [srt_split hlt (hp.mem_iff.2 hz), rank_perm hp]
theorem zero_rank {l : List Int} (h : l ≠ []) : 0 ∈ ranks l := by
  obtain ⟨y, hy, hl⟩ := exists_least l h
  exact List.mem_map.2 ⟨y, hy, (rank_zero_iff l y).2 hl⟩
theorem begun_kind {l : List Int} (h : l ≠ []) : mBegun (nz (ranks l)) = nz (kindI l) := by
  have h0 := zero_rank h
  have hm : (0 : Int) ∈ nz (ranks l) := List.mem_map.2 ⟨0, h0, rfl⟩
  have hle : ∀ y ∈ nz (ranks l), (0 : Int) ≤ y := by
    intro y hy
    obtain ⟨n, _, rfl⟩ := List.mem_map.1 hy
    omega
  have hidx : ∀ r : List Nat, (nz r).idxOf (0 : Int) = r.idxOf 0 := by
    intro r
    induction r with
    | nil => rfl
    | cons a r ih =>
      unfold nz at ih ⊢
      rw [List.map_cons, List.idxOf_cons, List.idxOf_cons, ih]
      have : ((a : Int) == 0) = (a == 0) := by rw [Bool.eq_iff_iff, beq_iff_eq, beq_iff_eq]; omega
      rw [this]
  unfold mBegun kindI fromZero
  rw [leastAt_of hm hle, hidx]
  unfold nz
  rw [List.map_append, List.map_drop, List.map_take]
section
variable {P : Program} {w : World} {K : PySem.W.Frag} {mg : Str → Option Value} {base : Heap}
def spKindOf (K : PySem.W.Frag) : Sp := fun vs H Q _ => ∃ (a : Addr) (ns : List Int), vs = [.ref a] ∧ SqL K H a (ivs ns) ∧ ns.Nodup ∧ ns ≠ [] ∧ ns.length ≤ 1000 ∧
  ∀ (H' : Hp) (p : Addr), Same H H' → H p = none → H' p = some (.tup (ivs (nz (kindI ns)))) → Q (.ref p) H'
theorem ok_kindOf {f fB : Addr} {fd fdB : FuncData} (F : Fun K "kind_of" "kind_of" sKindOf f fd) (GB : FnOk P w K mg base CX0 1 fB fdB ["row"] (spNew K (fun ns => 0 < ns.length ∧ ns.length ≤ 1000) mBegun)) (kB : PySem.W.keepIn K (.ref fB) = true)
    (bB : Binds K fdB ["row"] []) (gB : mg "begun_at_least" = some (.ref fB)) (ms : mg "sorted" = none) (mt : mg "tuple" = none) : FnOk P w K mg base CX0 2 f fd ["places"] (spKindOf K) := by
  refine F.ok scKi (fun vs H Q E h => ?_) (fun cdv A outer s H vs Q E hr h => ?_)
  · obtain ⟨a, ns, rfl, _⟩ := h
    rfl
  · obtain ⟨a, ns, rfl, hS, hnd, hne, hlen, q⟩ := h
    refine ⟨_, pss_cons (ps_set (i := 1) scKi.nd rfl (Or.inr rfl) (pe_callB cr_sortedI (by rfl) ms (by decide +kernel) (pa_cons (pv 0) pa_nil)))
      (pss_one (ps_ret (pe_tupleOf (by rfl) mt (pe_call GB hr (by rfl) gB kB bB .nil pass0 (pa_cons
        (pe_lc (own := [("place", 2)]) (g := gName 2) (tt := tYes) (te := tBM K "list" (rIndex K) (tVar 1) (tCons (tVar 2) tNil)) rfl scKi.nd (pi_list (pv 0)) (blkOk_by (N := ["places", "order", "place"]) (sc := defScope sKindOf) (by decide +kernel)) (fun _ _ _ _ _ => pg_name (i := 2) scKi.nd rfl (Or.inl rfl)) (fun _ _ _ _ _ => pts_nil)
          (fun _ _ _ _ _ => pe_bm PySem.F.plainAttrs_list PySem.F.slot_list_index PySem.F.type_list_index mt_index (pv 1) (pa_cons (pv 2) pa_nil))) pa_nil))))), ?_⟩
    refine ⟨_, rfl, a, ns, rfl, hS, fun ms o hperm hsrt no => ?_⟩
    have s1 : Same H (upd H o (.lst (ivs ms))) := same_new no
    refine ⟨_, rfl, a, rfl, ⟨_, s1.seq hS⟩, fun D nD => ?_⟩
    have s2 := s1
    refine lc_list (K := K) (a := a) (xs := ivs ns) (fun i H' => Same (upd H o (.lst (ivs ms))) H' ∧ H' D = some (.lst (ivs ((ns.take i).map fun z => ((rank ns z : Nat) : Int))))) ⟨same_new nD, upd_same⟩ (fun i H' _ h => (s1.trans h.1).seq hS) ?_ ?_
    · rintro i x H' hx ⟨sm, hD⟩
      obtain ⟨z, hz, rfl⟩ := ivs_get hx
      have hzm := List.mem_of_getElem? hz
      obtain ⟨v, i1, i2, i3⟩ := index_at (hperm.mem_iff.2 hzm)
      refine ⟨rfl, ?_⟩
      refine ⟨_, rfl, .inl ⟨rfl, _, SqL.of (sm _ _ upd_same)⟩, _, rfl, o, _, _, ms.idxOf z, v, rfl, rfl, SqL.of (sm _ _ upd_same), rfl, flat_ivs ms, i1, i2, i3, _, hD, map_len _ (by omega), same_at sm nD, ?_⟩
      rw [upd_same, map_more _ hz, idx_rank hnd hperm hsrt hzm]
    · rintro H1 ⟨sm, hD⟩
      rw [List.length_map, List.take_length] at hD
      have hl : (ns.map fun z => ((rank ns z : Nat) : Int)) = nz (ranks ns) := by
        unfold nz ranks
        rw [List.map_map]; rfl
      rw [hl] at hD
      have hlr : (nz (ranks ns)).length = ns.length := by unfold nz ranks; simp
      refine ⟨D, nz (ranks ns), rfl, SqL.of hD, ⟨by rw [hlr]; exact List.length_pos_iff.2 hne, by rw [hlr]; exact hlen⟩, fun H2 p s3 np hp => ?_⟩
      rw [begun_kind hne] at hp
      refine .inl ⟨p, _, rfl, SqL.of hp, fun t nt => ?_⟩
      exact q _ t (((s1.trans sm).trans s3).trans (same_new nt)) (none_of ((s1.trans sm).trans s3) nt) upd_same
end
end Rt

set_option Elab.async false
namespace Rt
open Su183
theorem nz_getD (l : List Nat) (i : Nat) : (nz l).getD i 0 = (l.getD i 0 : Nat) := by
  unfold nz
  rw [List.getD_eq_getElem?_getD, List.getD_eq_getElem?_getD, List.getElem?_map]
  cases l[i]? <;> rfl
theorem getD_some {l : List Nat} {i : Nat} (h : i < l.length) : l[i]? = some (l.getD i 0) := by
  rw [List.getD_eq_getElem?_getD, List.getElem?_eq_getElem h]; rfl
theorem lineTo_at {t : List Nat} (h : IsT t) : ∀ i, i ≤ t.length → ∀ m, m < i → (lineTo (nz t) i)[t.getD m 0]? = some (t.getD ((m + 1) % t.length) 0 : Int)
  | 0, _, m, hm => by omega
  | i + 1, hi, m, hm => by
    have hlen : (nz t).length = t.length := by simp
    rw [lineTo_succ]
    unfold lineStep
    have e : ((nz t).getD i 0).toNat = t.getD i 0 := by rw [nz_getD]; rfl
    rw [e, nz_getD, hlen]
    have hlt : ∀ j, j < t.length → t.getD j 0 < t.length := fun j hj => h.lt _ (List.mem_of_getElem? (getD_some hj))
    by_cases hmi : m = i
    · subst hmi
      rw [List.getElem?_set_self (by rw [lineTo_len, hlen]; exact hlt m (by omega))]
    · have hne : t.getD i 0 ≠ t.getD m 0 := fun e => hmi (getD_inj h.nd (by omega) (by omega) e.symm)
      rw [List.getElem?_set_ne hne]
      exact lineTo_at h i (by omega) m (by omega)
theorem putOf_len (t : List Nat) : (Su184.putOf t).length = t.length := by simp [Su184.putOf]
theorem mLine_eq {t : List Nat} (h : IsT t) : mLine (nz t) = nz (Su184.putOf t) := by
  have hlen : (nz t).length = t.length := by simp
  apply List.ext_getElem?
  intro r
  by_cases hr : r < t.length
  · have hmem := nodup_all t h.nd h.lt r hr
    obtain ⟨m, hm, e⟩ := List.getElem_of_mem hmem
    have e' : t.getD m 0 = r := by rw [List.getD_eq_getElem?_getD, List.getElem?_eq_getElem hm]; simpa using e
    have h1 := lineTo_at h t.length (Nat.le_refl _) m hm
    rw [e'] at h1
    have h2 := point_line h hm
    rw [e'] at h2
    unfold mLine
    rw [hlen, h1]
    unfold nz
    rw [List.getElem?_map, getD_some (by rw [putOf_len]; exact hr)]
    have h3 : (Su184.putOf t).getD r 0 = t.getD (m + 1) 0 := h2
    rw [h3]
    show some _ = some _
    congr 2
    by_cases hm1 : m + 1 < t.length
    · rw [Nat.mod_eq_of_lt hm1]
    · have : m + 1 = t.length := by omega
      rw [this, Nat.mod_self, h.zero, List.getD_eq_getElem?_getD, List.getElem?_eq_none (by omega)]; rfl
  · rw [List.getElem?_eq_none (by unfold mLine; rw [lineTo_len, hlen]; omega), List.getElem?_eq_none (by simp [putOf_len]; omega)]

section
variable {t : List Nat}
abbrev gl (t : List Nat) : Abs := Su184.lineOf t
theorem point_put (t : List Nat) (i : Nat) : (gl t).point i = (Su184.putOf t).getD i 0 := rfl
def slopesG (g : Abs) : List Int := (List.range g.n).map g.slope
def shiftsG (g : Abs) : List Int := (List.range g.n).map fun i => (g.point i : Int) - g.slope i * (i : Int)
def coverG (g : Abs) (i : Nat) : List Nat := (List.range (max (g.point i) (g.point (i + 1)) - min (g.point i) (g.point (i + 1)))).map fun j => min (g.point i) (g.point (i + 1)) + j
def coversG (g : Abs) : List (List Nat) := (List.range g.n).map (coverG g)
theorem mSlopes_eq (t : List Nat) : mSlopes (nz (Su184.putOf t)) = slopesG (gl t) := by
  unfold mSlopes slopesG
  rw [show (nz (Su184.putOf t)).length - 1 = (gl t).n by simp [putOf_len]; rfl]
  apply List.map_congr_left
  intro i _
  rw [nz_getD, nz_getD]; rfl
theorem slopesG_len (g : Abs) : (slopesG g).length = g.n := by simp [slopesG]
theorem shiftsG_len (g : Abs) : (shiftsG g).length = g.n := by simp [shiftsG]
theorem coversG_len (g : Abs) : (coversG g).length = g.n := by simp [coversG]
theorem slopesG_at (g : Abs) {i : Nat} (h : i < g.n) : (slopesG g).getD i 0 = g.slope i := by
  unfold slopesG
  rw [List.getD_eq_getElem?_getD, List.getElem?_map, List.getElem?_range h]; rfl
theorem shiftsG_at (g : Abs) {i : Nat} (h : i < g.n) : (shiftsG g).getD i 0 = (g.point i : Int) - g.slope i * (i : Int) := by
  unfold shiftsG
  rw [List.getD_eq_getElem?_getD, List.getElem?_map, List.getElem?_range h]; rfl
theorem mShifts_eq (t : List Nat) : mShifts (nz (Su184.putOf t)) (slopesG (gl t)) = shiftsG (gl t) := by
  unfold mShifts
  rw [slopesG_len]
  unfold shiftsG
  apply List.map_congr_left
  intro i hi
  rw [nz_getD, slopesG_at _ (List.mem_range.1 hi)]; rfl
theorem mCovers_eq (t : List Nat) : mCovers (nz (Su184.putOf t)) = nzz (coversG (gl t)) := by
  unfold mCovers coversG nzz
  rw [show (nz (Su184.putOf t)).length - 1 = (gl t).n by simp [putOf_len]; rfl, List.map_map]
  apply List.map_congr_left
  intro i hi
  unfold mCover rangeI
  rw [nz_getD, nz_getD]
  show _ = nz (coverG (gl t) i)
  unfold coverG nz
  rw [List.map_map, point_put, point_put]
  generalize (Su184.putOf t).getD i 0 = a
  generalize (Su184.putOf t).getD (i + 1) 0 = b
  have e1 : (if (b : Int) < (a : Int) then (b : Int) else (a : Int)) = ((min a b : Nat) : Int) := by split <;> omega
  have e2 : (if (b : Int) > (a : Int) then (b : Int) else (a : Int)) = ((max a b : Nat) : Int) := by split <;> omega
  rw [e1, e2]
  have e3 : (((max a b : Nat) : Int) - ((min a b : Nat) : Int)).toNat = max a b - min a b := by omega
  rw [e3]
  apply List.map_congr_left
  intro j _
  show ((min a b : Nat) : Int) + (j : Int) = ((min a b + j : Nat) : Int)
  omega
theorem mem_coverG (g : Abs) (i j : Nat) : j ∈ coverG g i ↔ g.covers i j = true := by
  unfold coverG
  rw [covers_iff, List.mem_map]
  constructor
  · rintro ⟨a, ha, rfl⟩
    have := List.mem_range.1 ha
    omega
  · intro h
    exact ⟨j - min (g.point i) (g.point (i + 1)), List.mem_range.2 (by omega), by omega⟩
theorem mem_coversG (g : Abs) (i j : Nat) (hi : i < g.n) : j ∈ (coversG g).getD i [] ↔ g.covers i j = true := by
  unfold coversG
  rw [List.getD_eq_getElem?_getD, List.getElem?_map, List.getElem?_range hi]
  exact mem_coverG g i j
theorem okC_of {g : Abs} (c : Cyc g) (hn : g.n ≤ 6) {s : Nat} (hs : s < g.n) : OkC s (coversG g) := by
  refine ⟨by rw [coversG_len]; exact hn, by rw [coversG_len]; exact hs, ?_⟩
  intro r hr
  obtain ⟨i, hi, rfl⟩ := List.mem_map.1 hr
  have hi := List.mem_range.1 hi
  have h1 := c.le i (by omega)
  have h2 := c.le (i + 1) (by omega)
  constructor
  · unfold coverG
    rw [List.length_map, List.length_range]
    omega
  · intro x hx
    rw [coversG_len]
    exact c.cover_lt hi ((mem_coverG g i x).1 hx)
theorem mem_waysM {g : Abs} (c : Cyc g) {s : Nat} (hs : s < g.n) : ∀ (m : Nat) (w : List Nat), w ∈ waysM s (coversG g) m ↔ ∃ v q, w = v ++ [q] ∧ v.length = m ∧ pathTo g v q ∧ w.headD 0 = s ∧ ∀ x ∈ w, s ≤ x ∧ x < g.n
  | 0, w => by
    constructor
    · intro h
      have e := List.mem_singleton.1 h
      subst e
      exact ⟨[], s, rfl, rfl, trivial, rfl, fun x hx => by rw [List.mem_singleton.1 hx]; omega⟩
    · rintro ⟨v, q, rfl, hv, _, hh, _⟩
      have := List.length_eq_zero_iff.1 hv
      subst this
      have : q = s := hh
      subst this
      exact List.mem_singleton.2 rfl
  | m + 1, w => by
    show w ∈ (waysM s (coversG g) m).flatMap (longerOf s (coversG g) m) ↔ _
    rw [List.mem_flatMap]
    constructor
    · rintro ⟨w0, h0, hw⟩
      obtain ⟨p, hp, rfl⟩ := List.mem_map.1 hw
      obtain ⟨v, q, rfl, hv, hpath, hh, hall⟩ := (mem_waysM c hs m w0).1 h0
      obtain ⟨hp1, hp2⟩ := List.mem_filter.1 hp
      have hq : (v ++ [q]).getD m 0 = q := by rw [List.getD_eq_getElem?_getD, List.getElem?_append_right (by omega), hv, Nat.sub_self]; rfl
      have hqn := (hall q (by simp)).2
      rw [hq, mem_coversG g q p hqn] at hp1
      have hsp : s ≤ p := of_decide_eq_true hp2
      refine ⟨v ++ [q], p, rfl, by simp [hv], (pathTo_append g v [q] p).2 ⟨hpath, hp1, trivial⟩, ?_, ?_⟩
      · rw [← hh]
        cases v <;> rfl
      · intro x hx
        rcases List.mem_append.1 hx with hx | hx
        · exact hall x hx
        · rw [List.mem_singleton.1 hx]
          exact ⟨hsp, c.cover_lt hqn hp1⟩
    · rintro ⟨v, p, rfl, hv, hpath, hh, hall⟩
      have hne : v ≠ [] := by intro e; rw [e] at hv; simp at hv
      obtain ⟨u, q, rfl⟩ : ∃ u q, v = u ++ [q] := ⟨v.dropLast, v.getLast hne, (List.dropLast_concat_getLast hne).symm⟩
      have hu : u.length = m := by simpa using hv
      obtain ⟨p1, p2⟩ := (pathTo_append g u [q] p).1 hpath
      have hall' : ∀ x ∈ u ++ [q], s ≤ x ∧ x < g.n := fun x hx => hall x (List.mem_append.2 (.inl hx))
      have hq : (u ++ [q]).getD m 0 = q := by rw [List.getD_eq_getElem?_getD, List.getElem?_append_right (by omega), hu, Nat.sub_self]; rfl
      refine ⟨u ++ [q], (mem_waysM c hs m _).2 ⟨u, q, rfl, hu, p1, ?_, hall'⟩, ?_⟩
      · rw [← hh]
        cases u <;> rfl
      · refine List.mem_map.2 ⟨p, List.mem_filter.2 ⟨?_, ?_⟩, rfl⟩
        · rw [hq, mem_coversG g q p (hall' q (by simp)).2]
          exact p2.1
        · exact decide_eq_true (hall p (by simp)).1
theorem mem_waysR {g : Abs} (c : Cyc g) {s : Nat} (hs : s < g.n) (k : Nat) (hk : 1 ≤ k) (w : List Nat) : w ∈ waysR s (coversG g) k ↔ w.length = k ∧ pathTo g w s ∧ w.headD 0 = s ∧ ∀ x ∈ w, s ≤ x ∧ x < g.n := by
  unfold waysR
  rw [List.mem_filter, mem_waysM c hs]
  constructor
  · rintro ⟨⟨v, q, rfl, hv, hpath, hh, hall⟩, hc⟩
    have hq : (v ++ [q]).getD (k - 1) 0 = q := by rw [List.getD_eq_getElem?_getD, List.getElem?_append_right (by omega), hv, Nat.sub_self]; rfl
    rw [hq, List.contains_iff_mem, mem_coversG g q s (hall q (by simp)).2] at hc
    exact ⟨by simp [hv]; omega, (pathTo_append g v [q] s).2 ⟨hpath, hc, trivial⟩, hh, hall⟩
  · rintro ⟨hl, hpath, hh, hall⟩
    have hne : w ≠ [] := by intro e; rw [e] at hl; simp at hl; omega
    obtain ⟨v, q, rfl⟩ : ∃ v q, w = v ++ [q] := ⟨w.dropLast, w.getLast hne, (List.dropLast_concat_getLast hne).symm⟩
    have hv : v.length = k - 1 := by simp at hl; omega
    have hq : (v ++ [q]).getD (k - 1) 0 = q := by rw [List.getD_eq_getElem?_getD, List.getElem?_append_right (by omega), hv, Nat.sub_self]; rfl
    obtain ⟨p1, p2⟩ := (pathTo_append g v [q] s).1 hpath
    refine ⟨⟨v, q, rfl, hv, p1, hh, hall⟩, ?_⟩
    rw [hq, List.contains_iff_mem, mem_coversG g q s (hall q (by simp)).2]
    exact p2.1
theorem acc_gen (g : Abs) (w : List Nat) (z : Int × Int) (h : ∀ i ∈ w, i < g.n) :
    w.foldl (fun z i => ((slopesG g).getD i 0 * z.1, (slopesG g).getD i 0 * z.2 + (shiftsG g).getD i 0)) z = w.foldl (fun z i => (g.slope i * z.1, (g.point i : Int) + g.slope i * (z.2 - (i : Int)))) z := by
  induction w generalizing z with
  | nil => rfl
  | cons i w ih =>
    have hi := h i (by simp)
    rw [List.foldl_cons, List.foldl_cons, ih _ fun j hj => h j (by simp [hj]), slopesG_at g hi, shiftsG_at g hi]
    congr 2
    grind
theorem places_gen (g : Abs) (D : Int) (w : List Nat) (X : Int) (h : ∀ i ∈ w, i < g.n) :
    (List.range w.length).map (fun j => (w.take j).foldl (stepM (slopesG g) (shiftsG g) D) X) = places g D w X := by
  induction w generalizing X with
  | nil => rfl
  | cons i w ih =>
    have hi := h i (by simp)
    rw [List.length_cons, List.range_succ_eq_map, List.map_cons, List.map_map]
    show X :: _ = X :: places g D w (aff g D i X)
    rw [← ih (aff g D i X) fun j hj => h j (by simp [hj])]
    congr 1
    apply List.map_congr_left
    intro j _
    show ((i :: w).take (j + 1)).foldl _ X = _
    rw [List.take_succ_cons, List.foldl_cons]
    congr 1
    unfold stepM aff
    rw [slopesG_at g hi, shiftsG_at g hi]
    grind
theorem placesM_eq (g : Abs) (w : List Nat) (h : ∀ i ∈ w, i < g.n) : placesM (slopesG g) (shiftsG g) w = progPlaces g w := by
  have ha : accM (slopesG g) (shiftsG g) w = g.along w := acc_gen g w (1, 0) h
  unfold placesM
  rw [ha, places_gen g _ w _ h]
  have hD : scaleM (g.along w) = (progD g w : Int) := by
    unfold scaleM progD
    by_cases h1 : (g.along w).1 = 1
    · rw [if_pos h1, if_pos h1]; rfl
    · rw [if_neg h1, if_neg h1]
      split <;> omega
  rw [hD]
  rfl
theorem placesM_len (S T : List Int) (w : List Nat) : (placesM S T w).length = w.length := by simp [placesM]
/-- what the loops over starts and ways go through -/
def allWays (g : Abs) (k : Nat) : List (List Nat) := (List.range g.n).flatMap fun s => waysR s (coversG g) k
theorem prog_ways {g : Abs} (c : Cyc g) (k : Nat) (hk : 1 ≤ k) (u : List Nat) : prog g k u ↔ ∃ w ∈ allWays g k, (placesM (slopesG g) (shiftsG g) w).Nodup ∧ kindI (placesM (slopesG g) (shiftsG g) w) = u := by
  constructor
  · rintro ⟨w, hl, _, hp, hall, hn, rfl⟩
    have hlt : ∀ i ∈ w, i < g.n := fun i hi => (hall i hi).1
    have hne : w ≠ [] := by intro e; rw [e] at hl; simp at hl; omega
    have hs : w.headD 0 < g.n := hlt _ (by cases w with | nil => exact absurd rfl hne | cons a w => simp)
    refine ⟨w, List.mem_flatMap.2 ⟨w.headD 0, List.mem_range.2 hs, (mem_waysR c hs k hk w).2 ⟨hl, hp, rfl, fun x hx => ⟨(hall x hx).2, (hall x hx).1⟩⟩⟩, ?_, ?_⟩
    · rw [placesM_eq g w hlt]; exact hn
    · rw [placesM_eq g w hlt]
  · rintro ⟨w, hw, hn, rfl⟩
    obtain ⟨s, hs, hw⟩ := List.mem_flatMap.1 hw
    have hs := List.mem_range.1 hs
    obtain ⟨hl, hp, hh, hall⟩ := (mem_waysR c hs k hk w).1 hw
    have hlt : ∀ i ∈ w, i < g.n := fun i hi => (hall i hi).2
    refine ⟨w, hl, by omega, by rw [hh]; exact hp, fun i hi => ⟨hlt i hi, by rw [hh]; exact (hall i hi).1⟩, ?_, ?_⟩
    · rw [← placesM_eq g w hlt]; exact hn
    · rw [← placesM_eq g w hlt]
end
end Rt

set_option Elab.async false
set_option maxRecDepth 100000
set_option maxHeartbeats 4000000
namespace Rt
open PySem PySem.Spec PyProof.Rows L2
theorem scKb : FnScope ["kind", "steps", "line", "slopes", "shifts", "covers", "found", "start", "way", "places"] ["kind", "steps"] (defScope sKinds) := ⟨rfl, rfl, rfl, by decide +kernel, rfl, by decide +kernel, by decide +kernel⟩
/-! keys -/
def keyOf (l : List Nat) : List Key := l.map fun (n : Nat) => Sum.inl (n : Int)
theorem keyOf_kV (l : List Nat) : (keyOf l).map kV = ivs (nz l) := by
  unfold keyOf ivs nz
  rw [List.map_map, List.map_map]; rfl
theorem keyOf_inj : ∀ {a b : List Nat}, keyOf a = keyOf b → a = b
  | [], [], _ => rfl
  | [], _ :: _, h => by simp [keyOf] at h
  | _ :: _, [], h => by simp [keyOf] at h
  | x :: a, y :: b, h => by
    unfold keyOf at h
    rw [List.map_cons, List.map_cons] at h
    obtain ⟨h1, h2⟩ := List.cons.inj h
    have h3 : (x : Int) = (y : Int) := Sum.inl.inj h1
    rw [keyOf_inj (a := a) (b := b) h2, show x = y by omega]
theorem keys_put {κ : Type} [DecidableEq κ] (kvs : List (κ × V)) (k : κ) (v : V) : (putK kvs k v).map (·.1) = if k ∈ kvs.map (·.1) then kvs.map (·.1) else kvs.map (·.1) ++ [k] := by
  unfold putK
  have e : (kvs.any fun kv => decide (kv.1 = k)) = true ↔ k ∈ kvs.map (·.1) := by
    rw [List.any_eq_true, List.mem_map]
    constructor
    · rintro ⟨x, hx, h⟩; exact ⟨x, hx, of_decide_eq_true h⟩
    · rintro ⟨x, hx, h⟩; exact ⟨x, hx, decide_eq_true h⟩
  by_cases h : k ∈ kvs.map (·.1)
  · rw [if_pos (e.2 h), if_pos h, List.map_map]
    apply List.map_congr_left
    intro x _
    show (if x.1 = k then (x.1, v) else x).1 = x.1
    split <;> rfl
  · rw [if_neg (fun q => h (e.1 q)), if_neg h, List.map_append]; rfl
section
variable (S T : List Int)
def addW (kvs : List (List Key × V)) (w : List Nat) : List (List Key × V) := if (placesM S T w).Nodup then putK kvs (keyOf (kindI (placesM S T w))) (.bl true) else kvs
def foundM (ws : List (List Nat)) : List (List Key × V) := ws.foldl (addW S T) []
theorem foundM_more (ws : List (List Nat)) (w : List Nat) : foundM S T (ws ++ [w]) = addW S T (foundM S T ws) w := by
  unfold foundM
  rw [List.foldl_append]; rfl
theorem addW_keys (kvs : List (List Key × V)) (w : List Nat) (hn : (kvs.map (·.1)).Nodup) : ((addW S T kvs w).map (·.1)).Nodup ∧ (∀ k, k ∈ (addW S T kvs w).map (·.1) ↔ k ∈ kvs.map (·.1) ∨ ((placesM S T w).Nodup ∧ k = keyOf (kindI (placesM S T w)))) ∧ (addW S T kvs w).length ≤ kvs.length + 1 := by
  unfold addW
  by_cases h : (placesM S T w).Nodup
  · rw [if_pos h]
    refine ⟨?_, ?_, length_putK _ _ _⟩
    · rw [keys_put]
      split
      · exact hn
      · rename_i h2
        rw [List.nodup_append]
        exact ⟨hn, by simp, fun a ha b hb e => h2 (by rw [List.mem_singleton.1 hb] at e; rw [← e]; exact ha)⟩
    · intro k
      rw [keys_put]
      split
      · rename_i h2
        constructor
        · exact .inl
        · rintro (h3 | ⟨_, rfl⟩)
          · exact h3
          · exact h2
      · rw [List.mem_append, List.mem_singleton]
        constructor
        · rintro (h3 | h3)
          · exact .inl h3
          · exact .inr ⟨h, h3⟩
        · rintro (h3 | ⟨_, h3⟩)
          · exact .inl h3
          · exact .inr h3
  · rw [if_neg h]
    refine ⟨hn, fun k => ⟨.inl, ?_⟩, by omega⟩
    rintro (h3 | ⟨h3, _⟩)
    · exact h3
    · exact absurd h3 h
theorem foundM_keys (ws : List (List Nat)) : ∀ kvs : List (List Key × V), (kvs.map (·.1)).Nodup → ((ws.foldl (addW S T) kvs).map (·.1)).Nodup ∧ (∀ k, k ∈ (ws.foldl (addW S T) kvs).map (·.1) ↔ k ∈ kvs.map (·.1) ∨ ∃ w ∈ ws, (placesM S T w).Nodup ∧ k = keyOf (kindI (placesM S T w))) ∧ (ws.foldl (addW S T) kvs).length ≤ kvs.length + ws.length := by
  induction ws with
  | nil => intro kvs hn; exact ⟨hn, fun k => by simp, by simp⟩
  | cons w ws ih =>
    intro kvs hn
    obtain ⟨a1, a2, a3⟩ := addW_keys S T kvs w hn
    obtain ⟨b1, b2, b3⟩ := ih (addW S T kvs w) a1
    refine ⟨b1, fun k => ?_, ?_⟩
    · rw [List.foldl_cons, b2, a2]
      constructor
      · rintro ((h | h) | ⟨v, hv, h⟩)
        · exact .inl h
        · exact .inr ⟨w, by simp, h⟩
        · exact .inr ⟨v, by simp [hv], h⟩
      · rintro (h | ⟨v, hv, h⟩)
        · exact .inl (.inl h)
        · rcases List.mem_cons.1 hv with rfl | hv
          · exact .inl (.inr h)
          · exact .inr ⟨v, hv, h⟩
    · rw [List.foldl_cons, List.length_cons]; omega
end
/-! the order of codes is the order of types -/
theorem code_before {B : Int} : ∀ {a b : List Nat}, a.length = b.length → TS.Bd B (nz a) → TS.Bd B (nz b) → TS.code B (nz a) ≤ TS.code B (nz b) → a ≠ b → Su184.before a b = true
  | [], [], _, _, _, _, h => absurd rfl h
  | [], _ :: _, h, _, _, _, _ => by simp at h
  | _ :: _, [], h, _, _, _, _ => by simp at h
  | x :: a, y :: b, hl, ha, hb, hc, hne => by
    have hl' : a.length = b.length := by simpa using hl
    have hln : (nz a).length = (nz b).length := by simp [hl']
    unfold Su184.before
    rw [Bool.or_eq_true, Bool.and_eq_true, decide_eq_true_eq, beq_iff_eq]
    rcases Nat.lt_trichotomy x y with h | h | h
    · exact .inl h
    · subst h
      refine .inr ⟨rfl, code_before hl' ha.tail hb.tail ?_ fun e => hne (by rw [e])⟩
      have := (TS.code_same (B := B) (d := (x : Int)) hln.symm)
      apply Int.not_lt.1
      intro h2
      have h3 := this.2 h2
      have hc' : TS.code B ((x : Int) :: nz a) ≤ TS.code B ((x : Int) :: nz b) := hc
      omega
    · exfalso
      have h3 := TS.code_lt (B := B) (d := (y : Int)) (e := (x : Int)) hln.symm hb.tail ha.tail (by omega)
      have hc' : TS.code B ((x : Int) :: nz a) ≤ TS.code B ((y : Int) :: nz b) := hc
      omega
/-- types at their places -/
def Tups (H : Hp) (ts : List Addr) (L : List (List Nat)) : Prop := ts.length = L.length ∧ ∀ (i : Nat) (a : Addr) (l : List Nat), ts[i]? = some a → L[i]? = some l → H a = some (.tup (ivs (nz l)))
theorem Tups.same {H H' : Hp} {as : List Addr} {L : List (List Nat)} (r : Tups H as L) (s : Same H H') : Tups H' as L := ⟨r.1, fun i a l h1 h2 => s _ _ (r.2 i a l h1 h2)⟩
theorem nz_inj : ∀ {a b : List Nat}, ivs (nz a) = ivs (nz b) → a = b := by
  intro a b h
  rw [← keyOf_kV, ← keyOf_kV] at h
  exact keyOf_inj (kVs_inj h)
/-- what sorted hands back, read as types -/
theorem sorted_types {H : Hp} {K : PySem.W.Frag} {kvs : List (List Key × V)} {bs : List Addr} {ys : List V} {d : Nat} {B : Int} (hK : IsKeys H kvs bs) (hk : ∀ k ∈ kvs.map (·.1), ∃ l : List Nat, k = keyOf l ∧ l.length = d ∧ TS.Bd B (nz l)) (hn : (kvs.map (·.1)).Nodup)
    (hp : ys.Perm (bs.map V.ref)) (hs : ys.Pairwise fun x y => ∀ n m, TupI K H x n → TupI K H y m → TS.code B n ≤ TS.code B m) :
    ∃ (ts : List Addr) (L : List (List Nat)), ys = ts.map V.ref ∧ Tups H ts L ∧ Srt L ∧ ∀ u, u ∈ L ↔ keyOf u ∈ kvs.map (·.1) := by
  -- the keys with their places
  obtain ⟨PL, e1, e2, e3⟩ : ∃ PL : List (Addr × List Nat), bs = PL.map (·.1) ∧ kvs.map (·.1) = PL.map (fun p => keyOf p.2) ∧ ∀ p ∈ PL, H p.1 = some (.tup (ivs (nz p.2))) := by
    clear hp hs hn
    unfold IsKeys at hK
    induction hK with
    | nil => exact ⟨[], rfl, rfl, by simp⟩
    | @cons kv b kvs bs r _ ih =>
      obtain ⟨PL, e1, e2, e3⟩ := ih fun k hk' => hk k (by rw [List.map_cons]; exact List.mem_cons_of_mem _ hk')
      obtain ⟨l, e, _⟩ := hk kv.1 (by rw [List.map_cons]; exact List.mem_cons_self)
      refine ⟨(b, l) :: PL, by rw [e1]; rfl, by rw [List.map_cons, e2, e]; rfl, ?_⟩
      intro p hp
      rcases List.mem_cons.1 hp with rfl | hp
      · rw [r, e, keyOf_kV]
      · exact e3 p hp
  have hPL : ∀ p ∈ PL, p.2.length = d ∧ TS.Bd B (nz p.2) := by
    intro p hp'
    obtain ⟨l, e, h1, h2⟩ := hk (keyOf p.2) (by rw [e2]; exact List.mem_map.2 ⟨p, hp', rfl⟩)
    rw [keyOf_inj e]; exact ⟨h1, h2⟩
  let cont : V → List Nat := fun v => ((PL.find? fun q => decide (V.ref q.1 = v)).map (·.2)).getD []
  have hcont : ∀ p ∈ PL, cont (.ref p.1) = p.2 := by
    intro p hp'
    show ((PL.find? fun q => decide (V.ref q.1 = V.ref p.1)).map (·.2)).getD [] = p.2
    cases e : PL.find? fun q => decide (V.ref q.1 = V.ref p.1) with
    | none =>
      have := List.find?_eq_none.1 e p hp'
      exact absurd (decide_eq_true rfl) this
    | some q =>
      have h0 := List.find?_some e
      have h1 : V.ref q.1 = V.ref p.1 := of_decide_eq_true h0
      have h2 := e3 q (List.mem_of_find?_eq_some e)
      have h3 := e3 p hp'
      rw [V.ref.inj h1, h3] at h2
      exact nz_inj (HO.tup.inj (Option.some.inj h2)).symm
  have hys : ∀ y ∈ ys, ∃ p ∈ PL, y = .ref p.1 := by
    intro y hy
    have := hp.mem_iff.1 hy
    rw [e1, List.map_map] at this
    obtain ⟨p, h1, h2⟩ := List.mem_map.1 this
    exact ⟨p, h1, h2.symm⟩
  let unref : V → Addr := fun v => match v with
    | .ref a => a
    | _ => 0
  have hts : ys = (ys.map unref).map V.ref := by
    rw [List.map_map]
    conv => lhs; rw [← List.map_id ys]
    apply List.map_congr_left
    intro y hy
    obtain ⟨p, _, rfl⟩ := hys y hy
    rfl
  have hL : (ys.map cont).Perm (PL.map (·.2)) := by
    have h1 := hp.map cont
    rw [e1, List.map_map, List.map_map] at h1
    have h2 : PL.map ((cont ∘ V.ref) ∘ fun x => x.1) = PL.map (·.2) := List.map_congr_left fun p hp' => hcont p hp'
    rw [h2] at h1
    exact h1
  have hnd : (ys.map cont).Nodup := by
    rw [hL.nodup_iff]
    rw [e2, List.nodup_iff_pairwise_ne, List.pairwise_map] at hn
    rw [List.nodup_iff_pairwise_ne, List.pairwise_map]
    exact hn.imp fun h e => h (by rw [e])
  refine ⟨ys.map unref, ys.map cont, hts, ⟨by simp, ?_⟩, ?_, ?_⟩
  · intro i a l h1 h2
    rw [List.getElem?_map] at h1 h2
    cases e : ys[i]? with
    | none => rw [e] at h1; cases h1
    | some y =>
      rw [e] at h1 h2
      obtain ⟨p, hp1, rfl⟩ := hys y (List.mem_of_getElem? e)
      have h3 : p.1 = a := Option.some.inj h1
      have h4 : cont (.ref p.1) = l := Option.some.inj h2
      rw [hcont p hp1] at h4
      rw [← h3, ← h4]
      exact e3 p hp1
  · rw [Srt, List.pairwise_map]
    rw [List.nodup_iff_pairwise_ne, List.pairwise_map] at hnd
    refine List.Pairwise.imp_of_mem ?_ (hs.and hnd)
    intro x y hx hy hxy
    obtain ⟨p, hp1, rfl⟩ := hys x hx
    obtain ⟨q, hq1, rfl⟩ := hys y hy
    have h1 := hxy.1 (nz p.2) (nz q.2) ⟨p.1, rfl, .inl (.inl (e3 p hp1))⟩ ⟨q.1, rfl, .inl (.inl (e3 q hq1))⟩
    have h2 := hxy.2
    rw [hcont p hp1, hcont q hq1] at h2 ⊢
    exact code_before (by rw [(hPL p hp1).1, (hPL q hq1).1]) (hPL p hp1).2 (hPL q hq1).2 h1 h2
  · intro u
    rw [hL.mem_iff, e2, List.mem_map, List.mem_map]
    constructor
    · rintro ⟨p, h1, rfl⟩; exact ⟨p, h1, rfl⟩
    · rintro ⟨p, h1, h2⟩; exact ⟨p, h1, keyOf_inj h2⟩
theorem paired_mem {α β : Type} {R : α → β → Prop} : ∀ {l : List α} {m : List β}, Paired R l m → ∀ {b : β}, b ∈ m → ∃ a ∈ l, R a b
  | _, _, .nil, _, h => by simp at h
  | _, _, .cons r t, b, h => by
    rcases List.mem_cons.1 h with rfl | h
    · exact ⟨_, List.mem_cons_self, r⟩
    · obtain ⟨a, ha, hr⟩ := paired_mem t h
      exact ⟨a, List.mem_cons_of_mem _ ha, hr⟩
def KeepX (f : Addr) (H H' : Hp) : Prop := ∀ b o, b ≠ f → H b = some o → H' b = some o
theorem KeepX.refl (f : Addr) (H : Hp) : KeepX f H H := fun _ _ _ e => e
theorem KeepX.same {f : Addr} {H H1 H2 : Hp} (k : KeepX f H H1) (s : Same H1 H2) : KeepX f H H2 := fun b o h e => s _ _ (k b o h e)
theorem KeepX.put {f : Addr} {H H1 : Hp} {o : HO} (k : KeepX f H H1) : KeepX f H (upd H1 f o) := fun b x h e => by rw [upd_ne h]; exact k b x h e
/-- kinds have as many numbers as there are places, each below that -/
theorem kindI_len (l : List Int) : (kindI l).length = l.length := by
  unfold kindI fromZero
  have : (ranks l).idxOf 0 ≤ (ranks l).length := List.idxOf_le_length
  rw [List.length_append, List.length_drop, List.length_take]
  have h2 : (ranks l).length = l.length := by simp [ranks]
  omega
theorem kindI_lt (l : List Int) : ∀ x ∈ kindI l, x < l.length := by
  intro x hx
  have hx' : x ∈ ranks l := by
    unfold kindI fromZero at hx
    rcases List.mem_append.1 hx with h | h
    · exact List.mem_of_mem_drop h
    · exact List.mem_of_mem_take h
  obtain ⟨y, hy, rfl⟩ := List.mem_map.1 hx'
  unfold rank
  have h1 := List.length_filter_lt_length_iff_exists (p := fun z => decide (z < y)) (l := l)
  exact h1.2 ⟨y, hy, by simp⟩
theorem waysR_len {g : Su183.Abs} (c : Cyc g) (hn : g.n ≤ 6) {s k : Nat} (hs : s < g.n) (hk : k ≤ 6) : (waysR s (coversG g) k).length ≤ 7776 := by
  unfold waysR
  have h1 := List.length_filter_le (fun way => ((coversG g).getD (way.getD (k - 1) 0) []).contains s) (waysM s (coversG g) (k - 1))
  have h2 := waysM_len (okC_of c hn hs) (k - 1)
  have h3 : 6 ^ (k - 1) ≤ 6 ^ 5 := Nat.pow_le_pow_right (by decide) (by omega)
  omega
def upTo (g : Su183.Abs) (k i : Nat) : List (List Nat) := (List.range i).flatMap fun s => waysR s (coversG g) k
theorem upTo_succ (g : Su183.Abs) (k i : Nat) : upTo g k (i + 1) = upTo g k i ++ waysR i (coversG g) k := by
  unfold upTo
  rw [List.range_succ, List.flatMap_append]; simp
theorem upTo_len {g : Su183.Abs} (c : Cyc g) (hn : g.n ≤ 6) {k : Nat} (hk : k ≤ 6) : ∀ i, i ≤ g.n → (upTo g k i).length ≤ i * 7776
  | 0, _ => by simp [upTo]
  | i + 1, hi => by
    have h1 := upTo_len c hn hk i (by omega)
    have h2 := waysR_len c hn (s := i) (by omega) hk
    rw [upTo_succ, List.length_append]
    omega
theorem upTo_mem {g : Su183.Abs} (c : Cyc g) {k i : Nat} (hk : 1 ≤ k) (hi : i ≤ g.n) {w : List Nat} (h : w ∈ upTo g k i) : w.length = k ∧ ∀ x ∈ w, x < g.n := by
  obtain ⟨s, hs, hw⟩ := List.mem_flatMap.1 h
  have hs := List.mem_range.1 hs
  obtain ⟨h1, _, _, h2⟩ := (mem_waysR c (by omega) k hk w).1 hw
  exact ⟨h1, fun x hx => (h2 x hx).2⟩
section
variable {P : Program} {w : World} {K : PySem.W.Frag} {mg : Str → Option Value} {base : Heap}
/-- a def at its place, by its name -/
structure Def1 (K : PySem.W.Frag) (mg : Str → Option Value) (name : Str) (f : Addr) (fd : FuncData) (ps : List Str) : Prop where
  kp : PySem.W.keepIn K (.ref f) = true
  bi : Binds K fd ps []
  gl : mg name = some (.ref f)
def spKinds (K : PySem.W.Frag) : Sp := fun vs H Q _ => ∃ (a : Addr) (t : List Nat) (k : Nat), vs = [.ref a, .int k] ∧ EitherAt K H a (nz t) ∧ IsT t ∧ t.length ≤ 7 ∧ 1 ≤ k ∧ k ≤ 6 ∧
  ∀ (H' : Hp) (p : Addr) (ts : List Addr), Same H H' → H p = none → H' p = some (.lst (ts.map V.ref)) → Tups H' ts (Su184.types t k) → Q (.ref p) H'
theorem ok_kinds {f f1 f2 f3 f4 f5 f6 f7 : Addr} {fd d1 d2 d3 d4 d5 d6 d7 : FuncData} (F : Fun K "kinds_brought" "kinds_brought" sKinds f fd)
    (G1 : FnOk P w K mg base CX0 1 f1 d1 ["kind"] (spNewE K okLine mLine)) (D1 : Def1 K mg "line_of" f1 d1 ["kind"])
    (G2 : FnOk P w K mg base CX0 1 f2 d2 ["line"] (spNew K (fun ns => ns.length ≤ 1000) mSlopes)) (D2 : Def1 K mg "slopes_of" f2 d2 ["line"])
    (G3 : FnOk P w K mg base CX0 1 f3 d3 ["line", "slopes"] (spShifts K)) (D3 : Def1 K mg "shifts_of" f3 d3 ["line", "slopes"])
    (G4 : FnOk P w K mg base CX0 1 f4 d4 ["line"] (spCovers K)) (D4 : Def1 K mg "covers_of" f4 d4 ["line"])
    (G5 : FnOk P w K mg base CX0 1 f5 d5 ["start", "covers", "steps"] spWays) (D5 : Def1 K mg "ways_round" f5 d5 ["start", "covers", "steps"])
    (G6 : FnOk P w K mg base CX0 1 f6 d6 ["way", "slopes", "shifts"] (spPlaces K)) (D6 : Def1 K mg "places_along" f6 d6 ["way", "slopes", "shifts"])
    (G7 : FnOk P w K mg base CX0 2 f7 d7 ["places"] (spKindOf K)) (D7 : Def1 K mg "kind_of" f7 d7 ["places"])
    (ml : mg "len" = none) (mr : mg "range" = none) (mse : mg "set" = none) (mso : mg "sorted" = none) (mli : mg "list" = none) : FnOk P w K mg base CX0 3 f fd ["kind", "steps"] (spKinds K) := by
  refine F.ok scKb (fun vs H Q E h => ?_) (fun cdv A outer s H vs Q E hr h => ?_)
  · obtain ⟨a, t, k, rfl, _⟩ := h
    rfl
  · obtain ⟨a, t, k, rfl, hS, hT, hT7, hk1, hk6, q⟩ := h
    have hr1 := hr.mono (show 1 ≤ 2 by decide)
    refine ⟨_, pss_cons (ps_if (pt_cmpR op_eq (pe_callB call_len_seq (by rfl) ml PySem.boot_len (pa_cons (pv 0) pa_nil)) pe_int (nomark _))
        (pss_one (ps_ret (pe_ifExp (pt_cmpR op_eq (pv 1) pe_int (nomark _)) (pe_lst (pa_cons (pe_tup (pa_cons pe_int pa_nil)) pa_nil)) (pe_lst pa_nil)))) pss_nil)
      (pss_cons (ps_set (i := 2) scKb.nd rfl (Or.inl rfl) (pe_call G1 hr1 (by rfl) D1.gl D1.kp D1.bi .nil pass0 (pa_cons (pv 0) pa_nil)))
      (pss_cons (ps_set (i := 3) scKb.nd rfl (Or.inl rfl) (pe_call G2 hr1 (by rfl) D2.gl D2.kp D2.bi .nil pass0 (pa_cons (pv 2) pa_nil)))
      (pss_cons (ps_set (i := 4) scKb.nd rfl (Or.inl rfl) (pe_call G3 hr1 (by rfl) D3.gl D3.kp D3.bi .nil pass0 (pa_cons (pv 2) (pa_cons (pv 3) pa_nil))))
      (pss_cons (ps_set (i := 5) scKb.nd rfl (Or.inl rfl) (pe_call G4 hr1 (by rfl) D4.gl D4.kp D4.bi .nil pass0 (pa_cons (pv 2) pa_nil)))
      (pss_cons (ps_set (i := 6) scKb.nd rfl (Or.inl rfl) pe_dnewT)
      (pss_cons (ps_for PassesOwn.never rfl (pi_range1 (by rfl) mr (pa_cons (pe_callB call_len_seq (by rfl) ml PySem.boot_len (pa_cons (pv 5) pa_nil)) pa_nil)) (pg_name (i := 7) scKb.nd rfl (Or.inl rfl))
        (pss_one (ps_for PassesOwn.never rfl (pi_list (pe_call G5 hr1 (by rfl) D5.gl D5.kp D5.bi .nil pass0 (pa_cons (pv 7) (pa_cons (pv 5) (pa_cons (pv 1) pa_nil))))) (pg_name (i := 8) scKb.nd rfl (Or.inl rfl))
          (pss_cons (ps_set (i := 9) scKb.nd rfl (Or.inl rfl) (pe_call G6 hr1 (by rfl) D6.gl D6.kp D6.bi .nil pass0 (pa_cons (pv 8) (pa_cons (pv 3) (pa_cons (pv 4) pa_nil)))))
          (pss_one (ps_if (pt_cmpR op_eq (RtR.pe_lenSetN rfl (by rfl) ml (by rfl) mse (pv 9)) (pv 1) (nomark _))
            (pss_one (ps_dput (hu_of hr) (pv 6) (pe_call G7 hr (by rfl) D7.gl D7.kp D7.bi .nil pass0 (pa_cons (pv 9) pa_nil)) pe_bl rfl)) pss_nil))))))
      (pss_one (ps_ret (pe_callB (RtR.cr_sortTany (d := k) (B := (k : Int)) hk1) (by rfl) mso (by decide +kernel) (pa_cons (pe_callTy (call_list_dT rfl) (by rfl) mli (by decide +kernel) (pa_cons (pv 6) pa_nil)) pa_nil)))))))))), ?_⟩
    refine ⟨_, rfl, a, _, rfl, hS.seq, rfl, _, rfl, ?_⟩
    refine ifB (fun h => ?_) (fun h => ?_)
    · -- a type of one step
      have h1 : (((ivs (nz t)).length : Nat) : Int) = 1 := V.int.inj (of_decide_eq_true h)
      have h1 : t.length = 1 := by simp at h1; omega
      have ht : t = [0] := by
        cases t with
        | nil => simp at h1
        | cons x r =>
          cases r with
          | nil => have := hT.zero; simp at this; rw [this]
          | cons y r => simp at h1
      subst ht
      refine ⟨_, rfl, rfl, _, rfl, ?_⟩
      refine ifB (fun h => ?_) (fun h => ?_)
      · have hk : (k : Int) = 1 := V.int.inj (of_decide_eq_true h)
        have hk : k = 1 := by omega
        subst hk
        refine ⟨by show 1 ≤ sizeLine; decide, fun p np => ?_⟩
        refine ⟨by show 1 ≤ sizeLine; decide, fun p2 np2 => ?_⟩
        have s1 : Same H (upd H p (.tup [.int 0])) := same_new np
        have hpp : p2 ≠ p := (ne_of_none upd_same np2).symm
        refine q _ p2 [p] (s1.trans (same_new np2)) (none_of s1 np2) upd_same ⟨rfl, ?_⟩
        intro i b l e1 e2
        cases i with
        | zero =>
          have e1' : p = b := by simpa using e1
          have e2' : [0] = l := Option.some.inj e2
          rw [← e1', ← e2', upd_ne hpp.symm, upd_same]; rfl
        | succ i => simp at e1
      · have hk : ¬ k = 1 := by
          intro e
          subst e
          exact of_decide_eq_false h rfl
        refine ⟨Nat.zero_le _, fun p np => ?_⟩
        refine q _ p [] (same_new np) np upd_same ⟨?_, fun i b l e => by simp at e⟩
        unfold Su184.types
        rw [if_pos (show ([0] : List Nat).length = 1 from rfl), if_neg hk]; rfl
    · have hne : ¬ t.length = 1 := by
        intro e
        refine of_decide_eq_false h ?_
        show V.int (((ivs (nz t)).length : Nat) : Int) = V.int 1
        rw [show (ivs (nz t)).length = 1 by simp [e]]; rfl
      have h2 : 2 ≤ t.length := by have := hT.pos; omega
      have cy : Cyc (gl t) := cyc_line hT h2
      have hgn : (gl t).n ≤ 6 := by rw [line_n]; omega
      have hlt : ∀ x ∈ nz t, 0 ≤ x ∧ x < ((nz t).length : Int) := by
        intro x hx
        obtain ⟨n, hn, rfl⟩ := List.mem_map.1 hx
        have := hT.lt n hn
        rw [List.length_map]
        omega
      -- line, slopes, shifts, covers
      refine ⟨_, rfl, a, nz t, rfl, hS, ⟨by rw [List.length_map]; omega, hlt⟩, fun H1 p1 s1 n1 e1 => ?_⟩
      rw [mLine_eq hT] at e1
      have hLl : (nz (Su184.putOf t)).length = t.length := by rw [List.length_map, putOf_len]
      refine ⟨_, rfl, p1, _, rfl, SqL.of e1, by show (nz (Su184.putOf t)).length ≤ 1000; rw [hLl]; omega, fun H2 p2 s2 n2 e2 => ?_⟩
      rw [mSlopes_eq] at e2
      refine ⟨_, rfl, _, rfl, p1, p2, _, _, rfl, SqL.of (s2 _ _ e1), SqL.of e2, by rw [hLl, slopesG_len, line_n]; omega, by rw [hLl]; omega, fun H3 p3 s3 n3 e3 => ?_⟩
      rw [mShifts_eq] at e3
      have hokL : okLine (nz (Su184.putOf t)) := by
        refine ⟨by rw [hLl]; omega, fun x hx => ?_⟩
        obtain ⟨n, hn, rfl⟩ := List.mem_map.1 hx
        obtain ⟨i, hi, rfl⟩ := List.getElem_of_mem hn
        rw [putOf_len] at hi
        have := cy.le i (by rw [line_n]; omega)
        rw [point_put, List.getD_eq_getElem?_getD, List.getElem?_eq_getElem (by rw [putOf_len]; exact hi), line_n] at this
        simp only [Option.getD_some] at this
        rw [hLl]
        omega
      refine ⟨_, rfl, p1, _, rfl, SqL.of (s3 _ _ (s2 _ _ e1)), hokL, fun H4 p4 cs s4 n4 e4 hR => ?_⟩
      rw [mCovers_eq] at hR
      have hR' : cs.length = (gl t).n := by rw [hR.1, List.length_map, coversG_len]
      generalize hg : gl t = g at *
      -- found = {}
      intro fn nfn
      have s6 : Same H4 (upd H4 fn (.dT [])) := same_new nfn
      refine ⟨_, rfl, p4, _, rfl, .inl (SqL.of (s6 _ _ e4)), _, rfl, ?_, ?_, ?_⟩
      · rw [List.length_map, hR']; omega
      · rw [List.length_map, hR']; omega
      have hn : ((((cs.map V.ref).length : Nat) : Int)).toNat = g.n := by rw [List.length_map, hR']; omega
      rw [hn]
      have hbS : ∀ x ∈ slopesG g, -1000 ≤ x ∧ x ≤ 1000 := by
        intro x hx
        obtain ⟨i, hi, rfl⟩ := List.mem_map.1 hx
        have hi := List.mem_range.1 hi
        have h1 := cy.le i (by omega)
        have h2 := cy.le (i + 1) (by omega)
        unfold Su183.Abs.slope
        omega
      have hbT : ∀ x ∈ shiftsG g, -1000000 ≤ x ∧ x ≤ 1000000 := by
        intro x hx
        obtain ⟨i, hi, rfl⟩ := List.mem_map.1 hx
        have hi := List.mem_range.1 hi
        have h1 := cy.le i (by omega)
        have h2 := cy.le (i + 1) (by omega)
        have h3 : -6 ≤ g.slope i ∧ g.slope i ≤ 6 := by unfold Su183.Abs.slope; omega
        have h4 : g.slope i * (i : Int) ≤ 6 * (i : Int) := Int.mul_le_mul_of_nonneg_right h3.2 (by omega)
        have h5 : -6 * (i : Int) ≤ g.slope i * (i : Int) := Int.mul_le_mul_of_nonneg_right h3.1 (by omega)
        omega
      have hfl : ∀ ws : List (List Nat), ws.length ≤ 50000 → (foundM (slopesG g) (shiftsG g) ws).length < sizeLine := by
        intro ws hw
        have := (foundM_keys (slopesG g) (shiftsG g) ws [] List.nodup_nil).2.2
        apply small
        show (ws.foldl (addW (slopesG g) (shiftsG g)) []).length ≤ 1000000
        simp at this
        omega
      refine for_range (lo := 0) (n := g.n) (fun i σ H' => ∃ y7 y8 y9, σ = [some (.ref a), some (.int k), some (.ref p1), some (.ref p2), some (.ref p3), some (.ref p4), some (.ref fn), y7, y8, y9] ∧ Same H4 H' ∧ H' fn = some (.dT (foundM (slopesG g) (shiftsG g) (upTo g k i)))) ?_ ?_ ?_
      · exact ⟨none, none, none, rfl, s6, upd_same⟩
      · rintro i σ H5 hi ⟨y7, y8, y9, rfl, s5, e5⟩
        refine ⟨_, rfl, _, rfl, _, rfl, i, k, p4, cs, coversG g, by rw [Int.zero_add]; rfl, s5 _ _ e4, hR.same s5, okC_of cy hgn hi, hk1, hk6, fun H7 p7 ws s7 n7 e7 hW => ?_⟩
        have e7f := s7 _ _ e5
        have hp7 : p7 ≠ fn := (ne_of e7 e7f (by intro z; cases z))
        refine ⟨p7, rfl, ⟨_, SqL.of e7⟩, ?_⟩
        refine for_list (K := K) (a := p7) (xs := ws.map V.ref) (fun j σ H' => ∃ y8 y9, σ = [some (.ref a), some (.int k), some (.ref p1), some (.ref p2), some (.ref p3), some (.ref p4), some (.ref fn), some (.int (0 + (i : Int))), y8, y9] ∧ KeepX fn H7 H' ∧ H' fn = some (.dT (foundM (slopesG g) (shiftsG g) (upTo g k i ++ (waysR i (coversG g) k).take j)))) ?_ ?_ ?_ ?_
        · refine ⟨_, _, rfl, KeepX.refl _ _, ?_⟩
          rw [List.take_zero, List.append_nil]; exact e7f
        · rintro j σ H' _ ⟨_, _, rfl, kx, _⟩
          exact SqL.of (kx _ _ hp7 e7)
        · rintro j x σ H8 hx ⟨y8, y9, rfl, kx, e8⟩
          obtain ⟨wj, l, rfl, hj1, hj2, hwj⟩ := hW.get hx
          have hj3 : j < (waysR i (coversG g) k).length := by
            have := (List.getElem?_eq_some_iff.1 hj2).1
            rwa [List.length_map] at this
          have hl : l = nz ((waysR i (coversG g) k)[j]) := by
            rw [List.getElem?_map, List.getElem?_eq_getElem hj3] at hj2
            exact (Option.some.inj hj2).symm
          subst hl
          have hmem : (waysR i (coversG g) k)[j] ∈ waysR i (coversG g) k := List.getElem_mem hj3
          have hgj : (waysR i (coversG g) k)[j]? = some (waysR i (coversG g) k)[j] := List.getElem?_eq_getElem hj3
          obtain ⟨hw1, hw2, hw3, hw4⟩ := (mem_waysR cy hi k hk1 _).1 hmem
          generalize (waysR i (coversG g) k)[j] = way at *
          have hwf : wj ≠ fn := ne_of hwj e7f (by intro z; cases z)
          have k4 : ∀ b o, H4 b = some o → H8 b = some o := fun b o e => kx _ _ (ne_of_none e nfn) (s7 _ _ (s5 _ _ e))
          have hwne : way ≠ [] := by intro e; rw [e] at hw1; simp at hw1; omega
          refine ⟨_, rfl, _, rfl, _, rfl, wj, p2, p3, way, slopesG g, shiftsG g, rfl, SqL.of (kx _ _ hwf hwj), SqL.of (k4 _ _ (s4 _ _ (s3 _ _ e2))), SqL.of (k4 _ _ (s4 _ _ e3)), hwne, by omega, ?_, hbS, hbT, fun H9 p9 s9 n9 e9 => ?_⟩
          · intro x hx
            have := (hw4 x hx).2
            rw [slopesG_len, shiftsG_len]; exact ⟨this, this⟩
          have hpl : (placesM (slopesG g) (shiftsG g) way).length = k := by rw [placesM_len, hw1]
          have hmore : foundM (slopesG g) (shiftsG g) (upTo g k i ++ (waysR i (coversG g) k).take (j + 1)) = if (placesM (slopesG g) (shiftsG g) way).Nodup then putK (foundM (slopesG g) (shiftsG g) (upTo g k i ++ (waysR i (coversG g) k).take j)) (keyOf (kindI (placesM (slopesG g) (shiftsG g) way))) (.bl true) else foundM (slopesG g) (shiftsG g) (upTo g k i ++ (waysR i (coversG g) k).take j) := by
            rw [take_one hgj, ← List.append_assoc, foundM_more]; rfl
          have hlen9 := hfl (upTo g k i ++ (waysR i (coversG g) k).take j) (by
            have h1 := upTo_len cy hgn hk6 i (by omega)
            have h2 := waysR_len cy hgn (s := i) hi hk6
            rw [List.length_append, List.length_take]
            omega)
          generalize placesM (slopesG g) (shiftsG g) way = pls at *
          generalize hgen : foundM (slopesG g) (shiftsG g) (upTo g k i ++ (waysR i (coversG g) k).take j) = kvs at *
          refine ⟨_, rfl, p9, pls, rfl, SqL.of e9, by omega, fun cnt hcnt => ⟨_, rfl, rfl, _, rfl, ?_⟩⟩
          have e9f := s9 _ _ e8
          refine ifB (fun h => ?_) (fun h => ?_)
          · have hc : (cnt : Int) = (k : Int) := V.int.inj (of_decide_eq_true h)
            have hnd : pls.Nodup := hcnt.1 (by omega)
            have hpne : pls ≠ [] := by intro e; rw [e] at hpl; simp at hpl; omega
            refine ⟨_, rfl, _, rfl, p9, pls, rfl, SqL.of e9, hnd, hpne, by omega, fun H10 p10 s10 n10 e10 => ?_⟩
            refine ⟨fn, _, rfl, DPut.t (s10 _ _ e9f) (by rw [keyOf_kV]; exact e10) hlen9, ?_⟩
            refine ⟨_, _, rfl, ((kx.same s9).same s10).put, ?_⟩
            rw [upd_same, hmore, if_pos hnd]
          · have hnd : ¬ pls.Nodup := fun hn => by
              refine of_decide_eq_false h ?_
              show V.int (cnt : Int) = V.int (k : Int)
              rw [hcnt.2 hn, hpl]
            refine ⟨_, _, rfl, kx.same s9, ?_⟩
            rw [e9f, hmore, if_neg hnd]
        · rintro σ H8 ⟨y8, y9, rfl, kx, e8⟩
          refine ⟨_, _, _, rfl, fun b o e => kx _ _ (ne_of_none e nfn) (s7 _ _ (s5 _ _ e)), ?_⟩
          rw [e8, List.length_map, hW.1, List.length_map, List.take_length, upTo_succ]
      · rintro σ H5 ⟨y7, y8, y9, rfl, s5, e5⟩
        obtain ⟨k1, k2, k3⟩ := foundM_keys (slopesG g) (shiftsG g) (upTo g k g.n) [] List.nodup_nil
        have hkeys : ∀ kk ∈ (foundM (slopesG g) (shiftsG g) (upTo g k g.n)).map (·.1), ∃ l : List Nat, kk = keyOf l ∧ l.length = k ∧ TS.Bd (k : Int) (nz l) := by
          intro kk hkk
          rcases (k2 kk).1 hkk with h3 | ⟨w, hw, _, rfl⟩
          · simp at h3
          · have hl : (placesM (slopesG g) (shiftsG g) w).length = k := by rw [placesM_len, (upTo_mem cy hk1 (Nat.le_refl _) hw).1]
            refine ⟨_, rfl, by rw [kindI_len, hl], ?_⟩
            intro m hm
            obtain ⟨n, hn, rfl⟩ := List.mem_map.1 hm
            have := kindI_lt _ n hn
            omega
        refine ⟨_, rfl, fn, _, rfl, .inl e5, fun lp bs nlp hK => ?_⟩
        have slp : Same H5 (upd H5 lp (.lst (bs.map V.ref))) := same_new nlp
        refine ⟨lp, _, rfl, SqL.of upd_same, ?_, fun ys p hperm hpw np => ?_⟩
        · intro x hx
          obtain ⟨b, hb, rfl⟩ := List.mem_map.1 hx
          obtain ⟨kv, hkv, e⟩ := paired_mem hK hb
          obtain ⟨l, e2', h3, h4⟩ := hkeys kv.1 (List.mem_map.2 ⟨kv, hkv, rfl⟩)
          rw [e2', keyOf_kV] at e
          exact ⟨nz l, ⟨b, rfl, .inl (.inl (slp _ _ e))⟩, by rw [List.length_map]; exact h3, h4⟩
        · have hK' : IsKeys (upd H5 lp (.lst (bs.map V.ref))) (foundM (slopesG g) (shiftsG g) (upTo g k g.n)) bs := Paired.mapP hK fun _ _ e => slp _ _ e
          obtain ⟨ts, L, rfl, hT', hSrt, hmem⟩ := sorted_types hK' hkeys k1 hperm hpw
          have hL : L = Su184.types t k := by
            refine types_eq hT h2 k L hSrt fun u => ?_
            show u ∈ L ↔ prog (gl t) k u
            rw [hmem, hg, prog_ways cy k hk1]
            show keyOf u ∈ (List.foldl (addW (slopesG g) (shiftsG g)) [] (upTo g k g.n)).map (·.1) ↔ _
            rw [k2]
            constructor
            · rintro (h3 | ⟨w, hw, hn, e⟩)
              · simp at h3
              · exact ⟨w, hw, hn, (keyOf_inj e).symm⟩
            · rintro ⟨w, hw, hn, rfl⟩
              exact .inr ⟨w, hw, hn, rfl⟩
          rw [hL] at hT'
          have sall : Same H (upd H5 lp (.lst (bs.map V.ref))) := ((((s1.trans s2).trans s3).trans s4).trans s5).trans slp
          exact q _ p ts (sall.trans (same_new np)) (none_of sall np) upd_same (hT'.same (same_new np))
end
end Rt

set_option Elab.async false
set_option maxRecDepth 100000
set_option maxHeartbeats 2000000
namespace Rt
open PySem PySem.Spec PyProof.Rows L2
theorem scIk : FnScope ["row", "most"] ["row", "most"] (defScope sIsKind) := ⟨rfl, rfl, rfl, by decide +kernel, rfl, by decide +kernel, by decide +kernel⟩
theorem dp_ints (K : PySem.W.Frag) (H : Hp) : ∀ l : List Int, DpAll K H (ivs l) (l.map PyData.int)
  | [] => .nil
  | x :: l => .cons (.int x) (dp_ints K H l)
theorem lay_ints : ∀ l : List Int, PyData.canLayAll0 (l.map PyData.int) = true
  | [] => rfl
  | x :: l => by rw [List.map_cons, PyData.canLayAll0, lay_ints l]; rfl
theorem depth_ints : ∀ l : List Int, PyData.depthAll (l.map PyData.int) ≤ 1
  | [] => by decide
  | x :: l => by
    rw [List.map_cons, PyData.depthAll]
    have := depth_ints l
    have h2 : PyData.depth (.int x) ≤ 1 := by simp [PyData.depth]
    omega
theorem shaped_ints (l : List Int) : SeqAt.shaped (.list (l.map PyData.int)) = true := by
  unfold SeqAt.shaped
  rw [Bool.and_eq_true, decide_eq_true_eq]
  constructor
  · rw [PyData.canLay0]; exact lay_ints l
  · rw [PyData.depth]
    have := depth_ints l
    omega
theorem eqv_ints : ∀ l m : List Int, PyData.eqvAll (l.map PyData.int) (m.map PyData.int) = decide (l = m)
  | [], [] => by simp [PyData.eqvAll]
  | [], y :: m => by simp [PyData.eqvAll]
  | x :: l, [] => by simp [PyData.eqvAll]
  | x :: l, y :: m => by
    rw [List.map_cons, List.map_cons, PyData.eqvAll, eqv_ints l m]
    have : PyData.eqv (.int x) (.int y) = decide (x = y) := by simp only [PyData.eqv]; rfl
    rw [this, Bool.eq_iff_iff]
    simp
theorem rg_nz (n : Nat) : rgV 0 (n : Int) = ivs ((List.range n).map fun (i : Nat) => (i : Int)) := by
  unfold rgV ivs
  rw [List.map_map, show ((n : Int) - 0).toNat = n by omega]
  apply List.map_congr_left
  intro i _
  show V.int (0 + (i : Int)) = V.int (i : Int)
  rw [Int.zero_add]
theorem range_srt (n : Nat) : ((List.range n).map fun (i : Nat) => (i : Int)).Pairwise (· ≤ ·) := by
  rw [List.pairwise_map]
  exact (List.pairwise_lt_range (n := n)).imp fun h => by omega
theorem isT_range {t : List Nat} (h : IsT t) : t.Perm (List.range t.length) :=
  (List.perm_ext_iff_of_nodup h.nd List.nodup_range).2 fun r => ⟨fun hr => List.mem_range.2 (h.lt r hr), fun hr => nodup_all t h.nd h.lt r (List.mem_range.1 hr)⟩
/-- sorted, a row is 0, 1, 2 .. just where it's a type but for its beginning -/
theorem isKind_iff {ns ms : List Int} (hp : ms.Perm ns) (hs : ms.Pairwise (· ≤ ·)) (h0 : ns.getD 0 1 = 0) : ms = ((List.range ns.length).map fun (i : Nat) => (i : Int)) ↔ ∃ t : List Nat, ns = (t.map fun (i : Nat) => (i : Int)) ∧ IsT t := by
  constructor
  · intro e
    rw [e] at hp
    have hb : ∀ x ∈ ns, ∃ i : Nat, i < ns.length ∧ (i : Int) = x := fun x hx => by
      obtain ⟨i, hi, rfl⟩ := List.mem_map.1 (hp.mem_iff.2 hx)
      exact ⟨i, List.mem_range.1 hi, rfl⟩
    have e2 : ns = (ns.map Int.toNat).map fun (i : Nat) => (i : Int) := by
      rw [List.map_map]
      conv => lhs; rw [← List.map_id ns]
      apply List.map_congr_left
      intro x hx
      obtain ⟨i, _, rfl⟩ := hb x hx
      rfl
    refine ⟨ns.map Int.toNat, e2, ?_, ?_, ?_, ?_⟩
    · rw [List.length_map]
      cases ns with
      | nil => simp at h0
      | cons a l => simp
    · cases ns with
      | nil => rfl
      | cons a l =>
        have : a = 0 := h0
        rw [this]; rfl
    · have hn : ns.Nodup := by
        rw [← hp.nodup_iff, List.nodup_iff_pairwise_ne, List.pairwise_map]
        exact (List.pairwise_lt_range (n := ns.length)).imp fun h => by omega
      rw [e2] at hn
      rw [List.nodup_iff_pairwise_ne, List.pairwise_map] at hn
      rw [List.nodup_iff_pairwise_ne]
      exact hn.imp fun h e => h (by rw [e])
    · intro x hx
      obtain ⟨y, hy, rfl⟩ := List.mem_map.1 hx
      obtain ⟨i, hi, rfl⟩ := hb y hy
      rw [List.length_map]
      exact hi
  · rintro ⟨t, rfl, ht⟩
    rw [List.length_map]
    have h2 := (isT_range ht).map fun (i : Nat) => (i : Int)
    exact List.Perm.eq_of_pairwise (le := (· ≤ ·)) (fun a b _ _ h1 h2 => by omega) hs (range_srt _) (hp.trans h2)
section
variable {P : Program} {w : World} {K : PySem.W.Frag} {mg : Str → Option Value} {base : Heap}
def spIsKind (K : PySem.W.Frag) : Sp := fun vs H Q _ => ∃ (a : Addr) (ns : List Int) (m : Nat), vs = [.ref a, .int m] ∧ SqL K H a (ivs ns) ∧ ns.length ≤ 1000 ∧
  ∀ (H' : Hp) (b : Bool), Same H H' → (b = true ↔ (∃ t : List Nat, ns = (t.map fun (i : Nat) => (i : Int)) ∧ IsT t) ∧ ns.length ≤ m) → Q (.bl b) H'
theorem ok_isKind {f : Addr} {fd : FuncData} (F : Fun K "is_kind" "is_kind" sIsKind f fd) (ml : mg "len" = none) (mr : mg "range" = none) (mso : mg "sorted" = none) (mli : mg "list" = none) : FnOk P w K mg base CX0 1 f fd ["row", "most"] (spIsKind K) := by
  refine F.ok scIk (fun vs H Q E h => ?_) (fun cdv A outer s H vs Q E hr h => ?_)
  · obtain ⟨a, ns, m, rfl, _⟩ := h
    rfl
  · obtain ⟨a, ns, m, rfl, hS, hlen, q⟩ := h
    refine ⟨_, pss_one (ps_ret (pe_and (pe_chain op_le op_le pe_int (pe_callB call_len_seq (by rfl) ml PySem.boot_len (pa_cons (pv 0) pa_nil)) (pv 1))
      (pe_and (pe_cmpR op_eq (pe_ix ix_list (pv 0) pe_int (fun _ _ => rfl)) pe_int (nomark _))
      (pe_one (pe_cmpR (op_eqD hr.units) (pe_callB cr_sortedI (by rfl) mso (by decide +kernel) (pa_cons (pv 0) pa_nil))
        (pe_listRg rfl (by rfl) mli (prg_1 (by rfl) mr (pe_callB call_len_seq (by rfl) ml PySem.boot_len (pa_cons (pv 0) pa_nil)))) (nomark _)))))), ?_⟩
    have hil : (ivs ns).length = ns.length := by simp
    refine ⟨_, rfl, a, _, rfl, .inl hS, _, _, rfl, rfl, _, rfl, ?_⟩
    have no : ∀ H', Same H H' → ¬ ((∃ t : List Nat, ns = (t.map fun (i : Nat) => (i : Int)) ∧ IsT t) ∧ ns.length ≤ m) → Q (.bl false) H' := fun H' sm hn => q H' false sm ⟨fun h => Bool.noConfusion h, fun h => absurd h hn⟩
    refine ifB (fun h => ?_) (fun h => ?_)
    · have h1 : (1 : Int) ≤ ((ivs ns).length : Nat) := of_decide_eq_true h
      rw [hil] at h1
      refine ⟨_, rfl, _, _, rfl, rfl, _, rfl, ?_⟩
      refine ifB (fun h => ?_) (fun h => ?_)
      · have h2 : (((ivs ns).length : Nat) : Int) ≤ (m : Int) := of_decide_eq_true h
        rw [hil] at h2
        obtain ⟨x, l, rfl⟩ : ∃ x l, ns = x :: l := by
          cases ns with
          | nil => simp at h1
          | cons x l => exact ⟨x, l, rfl⟩
        refine ⟨_, rfl, a, _, _, V.int x, rfl, rfl, hS, atI_nat (j := 0) rfl, rfl, _, rfl, ?_⟩
        refine ifB (fun h => ?_) (fun h => ?_)
        · have h3 : x = 0 := V.int.inj (of_decide_eq_true h)
          refine ⟨_, rfl, a, x :: l, rfl, hS, fun ms o hperm hsrt no' => ?_⟩
          have s1 : Same H (upd H o (.lst (ivs ms))) := same_new no'
          refine ⟨_, rfl, a, _, rfl, .inl (s1.seq hS), _, rfl, ?_, fun o2 no2 => ?_⟩
          · unfold RgOk
            rw [hil]
            omega
          have s2 : Same (upd H o (.lst (ivs ms))) (upd (upd H o (.lst (ivs ms))) o2 (.lst (rgV 0 (((ivs (x :: l)).length : Nat) : Int)))) := same_new no2
          rw [hil, rg_nz] at s2 ⊢
          refine ⟨_, _, .lst (SqL.of (s2 _ _ upd_same)) (dp_ints K _ ms), .lst (SqL.of upd_same) (dp_ints K _ _), shaped_ints _, shaped_ints _, ?_⟩
          refine q _ _ (s1.trans s2) ?_
          rw [PyData.eqv, eqv_ints, decide_eq_true_eq, isKind_iff hperm hsrt (by rw [h3]; rfl)]
          constructor
          · intro h; exact ⟨h, by omega⟩
          · intro h; exact h.1
        · refine no H (same_refl H) ?_
          rintro ⟨⟨t, e, ht⟩, _⟩
          refine of_decide_eq_false h ?_
          have hz := ht.zero
          cases t with
          | nil => simp at e
          | cons y r =>
            have e1 := (List.cons.inj e).1
            have e2 : y = 0 := hz
            rw [e1, e2]; rfl
      · refine no H (same_refl H) ?_
        rintro ⟨_, h3⟩
        refine of_decide_eq_false h ?_
        rw [hil]; omega
    · refine ⟨false, rfl, ?_⟩
      refine no H (same_refl H) ?_
      rintro ⟨⟨t, e, ht⟩, _⟩
      refine of_decide_eq_false h ?_
      have := ht.pos
      rw [hil, e, List.length_map]; omega
end
end Rt

set_option Elab.async false
set_option maxRecDepth 100000
set_option maxHeartbeats 4000000
namespace RtN
open PySem PySem.Spec PyProof.Rows L2
section
variable (P : Program) (w : World)
/-- at a: the tuple of a tuple of whole numbers and texts, and a whole number -/
def IsPairK (h : Heap) (k : List Key × Int) (a : Addr) : Prop := ∃ o items n b t, h.get? a = some o ∧ o.cls = .type "tuple" ∧ o.data = .seq items n ∧ items.toList = [.ref b, .int k.2 t] ∧ IsTupleKey (mixKind P w) h k.1 b
def pairHash (k : List Key × Int) : Int := reduceHash (Builtin.Tuple.tupleHashOf [tupleKeyHash (mixKind P w) k.1, (mixKind P w).hash (.inl k.2)])
end
section
variable {P : Program} {w : World}
theorem IsPairK.isTup {s : Shared} {k : List Key × Int} {a : Addr} (x : IsPairK P w s.heap k a) : s.TypeIs (.ref a) "tuple" := by
  obtain ⟨o, _, _, _, _, e1, e2, _⟩ := x
  exact ⟨o, e1, e2⟩
theorem IsPairK.one {h : Heap} {a : Addr} {x y : List Key × Int} (p : IsPairK P w h x a) (q : IsPairK P w h y a) : x = y := by
  obtain ⟨o, i1, n1, b1, t1, e1, _, e3, e4, e5⟩ := p
  obtain ⟨o', i2, n2, b2, t2, f1, _, f3, f4, f5⟩ := q
  have e : o = o' := Option.some.inj (e1.symm.trans f1)
  subst e
  rw [e3] at f3
  injection f3 with f3 _
  subst f3
  rw [e4] at f4
  injection f4 with g1 g2
  injection g1 with g1
  injection g2 with g2 _
  injection g2 with g2 _
  subst g1
  exact Prod.ext (e5.inj f5) g2
theorem IsPairK.stays {h h' : Heap} {k : List Key × Int} {a d : Addr} {o : Obj} {es ep} (x : IsPairK P w h k a) (ho : h.get? d = some o) (hd : o.data = .dict es ep) (hs : Heap.SameBut d h h') : IsPairK P w h' k a := by
  obtain ⟨o', its, n, b, t, e1, e2, e3, e4, e5⟩ := x
  have ne : a ≠ d := fun z => by
    rw [z, ho] at e1
    have := Option.some.inj e1
    rw [← this, hd] at e3
    exact nomatch e3
  exact ⟨o', its, n, b, t, (hs.2 a ne).trans e1, e2, e3, e4, e5.keeps ho hd hs⟩
variable {A : Around} {E : Value → Shared → Prop} {s : Shared}
theorem hash_pair {k : List Key × Int} {a : Addr} {Q : Int → Shared → Prop} (hu : A.units + 1 < cLine) (hk : IsPairK P w s.heap k a) (h : Q (pairHash P w k) { s with toks := s.toks + (k.1.length + 3) }) : wpAny (model P w) A (pyHash (.ref a)) Q E s := by
  have tT := hk.isTup
  obtain ⟨o, its, n, b, t, e1, _, e3, e4, e5⟩ := hk
  unfold pyHash pyHashByItsType
  refine wpAny_bind (wpAny_cRoomFor_or (.inr (Nat.lt_of_succ_lt hu)) ?_)
  refine wpAny_bind (wpAny_specialOf tT PySem.F.slot_tuple_hash.lookup ?_)
  dsimp only
  rw [if_neg (show ¬ (some (Value.builtin "tuple.__hash__") == some Value.none) = true by rw [beq_builtin_none]; exact Bool.false_ne_true)]
  refine wpAny_bind (wpAny_specialOf tT PySem.F.slot_tuple_hash.lookup (wpAny_bind (wpAny_callSpecialIfBoundUnlessNone?_slot tT PySem.F.slot_tuple_hash (wpAny_call_entry PySem.F.slot_tuple_hash tT PySem.F.entry_tuple_hash ?_ (PySem.F.args_tuple_hash_1 _)))))
  change wpAny _ A.in1 (Bind.bind (Builtin.Tuple.tupleItemsOf (.ref a)) _) _ _ _
  refine wpAny_bind (wpAny_tupleItemsOf e1 e3 (wpAny_bind ?_))
  rw [← Array.forIn_toList, e4]
  rw [List.forIn_cons]
  refine wpAny_bind (wpAny_bind (wpAny_pyHash_tuple (show A.in1.units < cLine from hu) e5 (wpAny_pure ?_)))
  dsimp only
  rw [List.forIn_cons]
  refine wpAny_bind (wpAny_bind ((mixKind P w).pyHash (k := .inl k.2) (mixKind_int P w k.2 t) (wpAny_pure ?_)))
  dsimp only
  rw [List.forIn_nil]
  refine wpAny_pure ?_
  have el : ((#[].push (tupleKeyHash (mixKind P w) k.1)).push ((mixKind P w).hash (Sum.inl k.2))).toList = [tupleKeyHash (mixKind P w) k.1, (mixKind P w).hash (.inl k.2)] := rfl
  rw [el]
  refine wpAny_ret_mkInt ?_
  have et : s.toks + (k.1.length + 1) + 1 + 1 = s.toks + (k.1.length + 3) := by omega
  unfold pairHash reduceHash at h
  dsimp only
  unfold pyHashByItsType.reduced
  generalize Builtin.Tuple.tupleHashOf [tupleKeyHash (mixKind P w) k.1, (mixKind P w).hash (.inl k.2)] = v at h ⊢
  rw [et]
  by_cases c : (decide (-(2 : Int) ^ 63 ≤ v) && decide (v < 2 ^ 63)) = true
  · rw [if_pos c] at h ⊢
    exact wpAny_pure h
  · rw [if_neg c] at h ⊢
    exact wpAny_bind (wpAny_rule (wpAny_pure h))
/-- two such tuples are equal where their parts are -/
theorem eq_pair {x y : List Key × Int} {a b : Addr} {Q : Bool → Shared → Prop} (hu : A.units + 1 < cLine) (hx : IsPairK P w s.heap x a) (hy : IsPairK P w s.heap y b) (h : Q (decide (x = y)) s) : wpAny (model P w) A (eqBool (.ref a) (.ref b)) Q E s := by
  unfold eqBool
  try with_reducible refine wpAny_holding ?_
  by_cases c : (Value.ref a == Value.ref b) = true
  · have e : a = b := by
      have := eq_of_beq c
      injection this
    subst e
    have e2 := hx.one hy
    subst e2
    rw [decide_eq_true rfl] at h
    dsimp only
    rw [if_pos c]
    exact wpAny_bind (wpAny_rule (wpAny_pure h))
  · dsimp only
    rw [if_neg c]
    have tA := hx.isTup
    have tB := hy.isTup
    refine wpAny_bind (wpAny_richCompare_same_room (op := .Eq) tA tB PySem.F.slot_tuple_eq (wpAny_call_entry PySem.F.slot_tuple_eq tA PySem.F.entry_tuple_eq ?_ (PySem.F.args_tuple_eq_2 _ _)) (Nat.lt_of_succ_lt hu))
    obtain ⟨o1, i1, n1, b1, t1, e1, _, e3, e4, e5⟩ := hx
    obtain ⟨o2, i2, n2, b2, t2, f1, _, f3, f4, f5⟩ := hy
    change wpAny _ A.in1 (Bind.bind (isInstance (.ref b) (.type "tuple")) _) _ _ _
    refine wpAny_bind (wpAny_isInstance tB isSubtype_tuple_tuple ?_)
    simp only [Bool.not_true, Bool.false_eq_true, if_false]
    refine wpAny_bind (wpAny_tupleItemsOf e1 e3 (wpAny_bind (wpAny_tupleItemsOf f1 f3 (wpAny_bind ?_))))
    rw [e4, f4]
    have z : [Value.ref b1, Value.int x.2 t1].zip [Value.ref b2, Value.int y.2 t2] = [(Value.ref b1, Value.ref b2), (Value.int x.2 t1, Value.int y.2 t2)] := rfl
    have sz : i1.size = i2.size := by rw [← Array.length_toList, ← Array.length_toList, e4, f4]; rfl
    rw [z, List.forIn_cons]
    refine wpAny_bind (wpAny_bind (wpAny_eqBool_tuple (show A.in1.units < cLine from hu) e5 f5 ?_))
    by_cases c1 : x.1 = y.1
    · rw [decide_eq_true c1]
      simp only [Bool.not_true, Bool.false_eq_true, if_false]
      refine wpAny_pure ?_
      dsimp only
      rw [List.forIn_cons]
      refine wpAny_bind (wpAny_bind ((mixKind P w).eqBool (a := .inl x.2) (b := .inl y.2) (mixKind_int P w x.2 t1) (mixKind_int P w y.2 t2) ?_))
      by_cases c2 : x.2 = y.2
      · have cc : x = y := Prod.ext c1 c2
        rw [decide_eq_true (show (Sum.inl x.2 : Key) = Sum.inl y.2 by rw [c2])]
        simp only [Bool.not_true, Bool.false_eq_true, if_false]
        refine wpAny_pure ?_
        dsimp only
        rw [List.forIn_nil]
        refine wpAny_pure (wpAny_pure ⟨_, rfl, (fun e => nomatch e), ?_⟩)
        rw [decide_eq_true cc] at h
        rw [sz]
        refine wpAny_truthy_bool ?_
        rw [show (i2.size == i2.size) = true from beq_self_eq_true _]
        exact h
      · have cc : ¬ x = y := fun e => c2 (by rw [e])
        rw [decide_eq_false (show ¬ (Sum.inl x.2 : Key) = Sum.inl y.2 from fun e => c2 (Sum.inl.inj e))]
        simp only [Bool.not_false, if_true]
        refine wpAny_bind (wpAny_pure (wpAny_pure ?_))
        refine wpAny_pure ?_
        refine wpAny_pure ⟨_, rfl, (fun e => nomatch e), ?_⟩
        rw [decide_eq_false cc] at h
        exact wpAny_truthy_bool h
    · have cc : ¬ x = y := fun e => c1 (by rw [e])
      rw [decide_eq_false c1]
      simp only [Bool.not_false, if_true]
      refine wpAny_bind (wpAny_pure (wpAny_pure ?_))
      refine wpAny_pure ?_
      refine wpAny_pure ⟨_, rfl, (fun e => nomatch e), ?_⟩
      rw [decide_eq_false cc] at h
      exact wpAny_truthy_bool h
/-- its == runs no code of the program's own -/
theorem quiet_flat {ks : List Key} {a : Addr} {m : Nat} {Q : Bool → Shared → Prop} (hk : IsTupleKey (mixKind P w) s.heap ks a) (h : Q true s) : wpAny (model P w) A (eqIsQuiet (m + 1) (.ref a)) Q E s := by
  have tT := hk.typeIs
  obtain ⟨o, its, n, e1, _, e3, e4⟩ := hk
  unfold eqIsQuiet
  refine wpAny_bind (wpAny_specialOf tT PySem.F.slot_tuple_eq.lookup ?_)
  change wpAny _ _ (Bind.bind (isInstance (.ref a) (.type "tuple")) _) _ _ _
  refine wpAny_bind (wpAny_isInstance tT isSubtype_tuple_tuple ?_)
  simp only [Bool.not_true, Bool.false_eq_true, if_false]
  refine wpAny_bind (wpAny_seqItems e1 e3 (wpAny_bind ?_))
  change wpAny _ _ (forIn its _ _) _ _ _
  rw [← Array.forIn_toList]
  refine wpAny_forIn_list _ (fun rest r s' => r.1 = none ∧ s' = s ∧ ∀ v ∈ rest, carriedByValue v = true) _ ?_ ?_ _ _ ⟨rfl, rfl, e4.byValue⟩
  · rintro v rest r s' ⟨_, rfl, hall⟩
    rw [eqIsQuiet_byValue _ (hall v List.mem_cons_self)]
    refine wpAny_bind (wpAny_pure ?_)
    simp only [Bool.not_true, Bool.false_eq_true, if_false]
    exact wpAny_pure ⟨rfl, rfl, fun u q => hall u (List.mem_cons_of_mem _ q)⟩
  · rintro ⟨r1, r2⟩ s' ⟨q, rfl, _⟩
    have q : r1 = none := q
    subst q
    exact wpAny_pure h
theorem quiet_pair {k : List Key × Int} {a : Addr} {Q : Bool → Shared → Prop} (hk : IsPairK P w s.heap k a) (h : Q true s) : wpAny (model P w) A (eqIsQuiet 8 (.ref a)) Q E s := by
  have tT := hk.isTup
  obtain ⟨o, its, n, b, t, e1, _, e3, e4, e5⟩ := hk
  unfold eqIsQuiet
  refine wpAny_bind (wpAny_specialOf tT PySem.F.slot_tuple_eq.lookup ?_)
  change wpAny _ _ (Bind.bind (isInstance (.ref a) (.type "tuple")) _) _ _ _
  refine wpAny_bind (wpAny_isInstance tT isSubtype_tuple_tuple ?_)
  simp only [Bool.not_true, Bool.false_eq_true, if_false]
  refine wpAny_bind (wpAny_seqItems e1 e3 (wpAny_bind ?_))
  change wpAny _ _ (forIn its _ _) _ _ _
  rw [← Array.forIn_toList, e4, List.forIn_cons]
  refine wpAny_bind (wpAny_bind (quiet_flat e5 ?_))
  simp only [Bool.not_true, Bool.false_eq_true, if_false]
  refine wpAny_pure ?_
  dsimp only
  rw [List.forIn_cons]
  refine wpAny_bind (wpAny_bind ?_)
  rw [eqIsQuiet_byValue _ rfl]
  refine wpAny_pure ?_
  simp only [Bool.not_true, Bool.false_eq_true, if_false]
  refine wpAny_pure ?_
  dsimp only
  rw [List.forIn_nil]
  exact wpAny_pure (wpAny_pure h)
end
def pairKind (P : Program) (w : World) : HeapKind P w (List Key × Int) where
  is := IsPairK P w
  hash := pairHash P w
  draws := fun k => k.1.length + 3
  room := fun A => A.units + 1 < cLine
  inj := fun p q => p.one q
  keeps := fun x ho hd hs => x.stays ho hd hs
  pyHash := fun hu hk h => hash_pair hu hk h
  eqBool := fun hu hx hy h => eq_pair hu hx hy h
  quiet := fun hk h => quiet_pair hk h
/-! ### a dict with such keys -/
abbrev NKey := List Key × Int
abbrev NKvs := List (NKey × Addr × V)
def NRel : NKvs → List (NKey × Addr × Value) → Prop := Paired fun p q => p.1 = q.1 ∧ p.2.1 = q.2.1 ∧ RelV p.2.2 q.2.2
def NFact (P : Program) (w : World) (a : Addr) (kvs : NKvs) (h : Heap) : Prop := kvs.length ≤ sizeLine ∧ (a == sysModules) = false ∧ ∃ xs, NRel kvs xs ∧
  ∃ o es ep, h.get? a = some o ∧ o.ExactDict ∧ o.data = .dict es ep ∧ es.toList = xs.map (entryOfKey (pairKind P w)) ∧ (xs.map (·.1)).Nodup
def NDict (P : Program) (w : World) (a : Addr) (kvs : NKvs) : HO := .ext (NFact P w a kvs)
theorem NFact.obj {P : Program} {w : World} {a : Addr} {kvs : NKvs} {H : Hp} {h : Heap} (f : NFact P w a kvs h) : ObjOk P w H h a (NDict P w a kvs) := by
  obtain ⟨z, y, xs, r, o, es, ep, e, m⟩ := f
  refine ⟨⟨z, y, xs, r, o, es, ep, e, m⟩, ⟨o, e⟩, ?_⟩
  rintro h1 h2 ⟨z, y, xs, r, o, es, ep, e, m⟩ st
  exact ⟨z, y, xs, r, o, es, ep, st o e, m⟩
/-- such a key stands at b -/
def PairAt (H : Hp) (b : Addr) (k : NKey) : Prop := ∃ c, H b = some (.tup [.ref c, .int k.2]) ∧ H c = some (.tup (k.1.map kV))
theorem PairAt.same {H H' : Hp} {b : Addr} {k : NKey} (p : PairAt H b k) (s : Same H H') : PairAt H' b k := let ⟨c, e1, e2⟩ := p; ⟨c, s _ _ e1, s _ _ e2⟩
theorem PairAt.put {H : Hp} {b d : Addr} {k : NKey} {o : HO} (p : PairAt H b k) (hd : ∀ xs, H d ≠ some (.tup xs)) : PairAt (upd H d o) b k := by
  obtain ⟨c, e1, e2⟩ := p
  refine ⟨c, ?_, ?_⟩
  · rw [upd_ne (fun z => hd _ (by rw [← z]; exact e1))]; exact e1
  · rw [upd_ne (fun z => hd _ (by rw [← z]; exact e2))]; exact e2
theorem PairAt.is {P : Program} {w : World} {H : Hp} {h : Heap} {b : Addr} {k : NKey} (ok : HOk P w H h) (p : PairAt H b k) : IsPairK P w h k b := by
  obtain ⟨c, e1, e2⟩ := p
  have h2 : IsTupleKey (mixKind P w) h k.1 c := key_of ok e2
  obtain ⟨_, its, r, o, f1, f2, n, f3⟩ := (show ObjOk P w H h b (.tup [.ref c, .int k.2]) from ok b _ e1)
  cases r with
  | cons r1 t1 =>
    cases t1 with
    | cons r2 t2 =>
      cases t2
      obtain ⟨t, rfl⟩ := (show ∃ t, _ = Value.int k.2 t from r2)
      cases (show _ = Value.ref c from r1)
      exact ⟨o, _, n, c, t, f1, f2, f3, rfl, h2⟩
def nval (kvs : NKvs) (k : NKey) : Option V := (kvs.find? fun x => decide (x.1 = k)).map (·.2.2)
theorem NRel.val {kvs : NKvs} {xs : List (NKey × Addr × Value)} (r : NRel kvs xs) (k : NKey) : RelO (nval kvs k) ((atKey xs k).map (·.2)) := by
  unfold NRel at r
  induction r with
  | nil => exact True.intro
  | @cons p q ps qs hpq _ ih =>
    by_cases e : p.1 = k
    · have e' : q.1 = k := hpq.1.symm.trans e
      have n1 : nval (p :: ps) k = some p.2.2 := by simp [nval, e]
      have n2 : atKey (q :: qs) k = some q.2 := by simp [atKey, e']
      rw [n1, n2]
      exact hpq.2.2
    · have e' : ¬ q.1 = k := fun z => e (hpq.1.trans z)
      have n1 : nval (p :: ps) k = nval ps k := by simp [nval, e]
      have n2 : atKey (q :: qs) k = atKey qs k := by simp [atKey, e']
      rw [n1, n2]
      exact ih
theorem NRel.mem {kvs : NKvs} {xs : List (NKey × Addr × Value)} (r : NRel kvs xs) {x : NKey × Addr × Value} (h : x ∈ xs) : ∃ p ∈ kvs, p.1 = x.1 ∧ p.2.1 = x.2.1 := by
  unfold NRel at r
  induction r with
  | nil => simp at h
  | @cons p q ps qs hpq _ ih =>
    rcases List.mem_cons.1 h with rfl | h
    · exact ⟨p, List.mem_cons_self, hpq.1, hpq.2.1⟩
    · obtain ⟨p', m, e⟩ := ih h
      exact ⟨p', List.mem_cons_of_mem _ m, e⟩
/-- a dict of the kind, with its keys where they stand -/
structure NAt (P : Program) (w : World) (H : Hp) (a : Addr) (kvs : NKvs) : Prop where
  obj : H a = some (NDict P w a kvs)
  keys : ∀ p ∈ kvs, PairAt H p.2.1 p.1
theorem NAt.same {P : Program} {w : World} {H H' : Hp} {a : Addr} {kvs : NKvs} (n : NAt P w H a kvs) (s : Same H H') : NAt P w H' a kvs := ⟨s _ _ n.obj, fun p m => (n.keys p m).same s⟩
theorem NAt.dict {P : Program} {w : World} {H : Hp} {h : Heap} {a : Addr} {kvs : NKvs} (ok : HOk P w H h) (n : NAt P w H a kvs) : kvs.length ≤ sizeLine ∧ (a == sysModules) = false ∧ ∃ xs, NRel kvs xs ∧ h.DictOfH (pairKind P w) a xs := by
  obtain ⟨⟨z, y, xs, r, o, es, ep, e1, e2, e3, e4, e5⟩, _⟩ := (show ObjOk P w H h a (NDict P w a kvs) from ok a _ n.obj)
  refine ⟨z, y, xs, r, o, es, ep, e1, e2, e3, e4, fun x hx => ?_, e5⟩
  obtain ⟨p, m, f1, f2⟩ := r.mem hx
  rw [← f1, ← f2]
  exact (n.keys p m).is ok
section
variable {X : Cx} {o i value : Expr} {pos pos' : Pos} {td ty tv : TE}
def tNNew (P : Program) (w : World) : TE := fun _ H Q => ∀ p, H p = none → Q (.ref p) (upd H p (NDict P w p []))
theorem pe_nnew : PE X (.Dict [] [] pos) (tNNew X.prog X.w) := by
  refine ⟨fun pins s σ H Q I h => wpAny_Dict_empty ?_⟩
  have f : NFact X.prog X.w s.heap.objs.size [] (s.heap.push { cls := .type "dict", data := .dict #[] }) :=
    ⟨Nat.zero_le _, beq_eq_false_iff_ne.mpr (Ne.symm (Nat.ne_of_lt I.big)), [], .nil, _, #[], 0, Heap.get?_push_size _ rfl, ⟨rfl, rfl, rfl⟩, rfl, rfl, List.nodup_nil⟩
  exact ⟨.ref s.heap.objs.size, _, I.laid (a := s.heap.objs.size) (o := NDict X.prog X.w s.heap.objs.size []) (t' := s.toks) (fun _ _ q => Heap.get?_push_of_some _ q) (Nat.le_refl _) f.obj, rfl, h _ (I.hok.fresh (Nat.le_refl _))⟩
def tNGet (P : Program) (w : World) (td ty : TE) : TE := fun σ H Q => td σ H fun x H1 => ty σ H1 fun y H2 => ∃ a kvs b k v, x = .ref a ∧ NAt P w H2 a kvs ∧ y = .ref b ∧ PairAt H2 b k ∧ nval kvs k = some v ∧ Q v H2
theorem pe_nget (hu : X.A.units + 2 < cLine) (ho : PE X o td) (hi : PE X i ty) (hs : NoSl i) : PE X (.Subscript o i pos) (tNGet X.prog X.w td ty) := by
  refine ⟨fun pins s σ H Q J h => subD_of PySem.F.slot_dict_getitem.lookup hs (thn (ho.run pins s σ H _ J h) fun u s1 ⟨x, H1, J1, rx, q1⟩ => thn (hi.run pins s1 σ H1 _ J1 q1) fun iv s2 ⟨y, H2, J2, ry, a, kvs, b, k, v, ex, na, ey, pk, nv, q2⟩ => ?_)⟩
  subst ex ey
  cases (show u = Value.ref a from rx)
  cases (show iv = Value.ref b from ry)
  obtain ⟨z, hd, xs, rel, dd⟩ := na.dict J2.hok
  have q := rel.val k
  rw [nv] at q
  cases e : atKey xs k with
  | none => rw [e] at q; exact q.elim
  | some p =>
    rw [e] at q
    exact ⟨dd.typeIs, wpAny_getItem_heap (show X.A.in1.units + 1 < cLine from hu) (pk.is J2.hok) dd e ⟨v, H2, J2.tok _, q, q2⟩⟩
def tNNotIn (P : Program) (w : World) (ty td : TE) : TE := fun σ H Q => ty σ H fun y H1 => td σ H1 fun x H2 => ∃ a kvs b k, x = .ref a ∧ NAt P w H2 a kvs ∧ y = .ref b ∧ PairAt H2 b k ∧ Q (.bl (!(nval kvs k).isSome)) H2
theorem pc_nnotin (hu : X.A.units + 2 < cLine) (hi : PE X i ty) (ho : PE X o td) : PC X .NotIn i o (tNNotIn X.prog X.w ty td) := by
  refine ⟨fun pins s σ H Q J h => thn (hi.run pins s σ H _ J h) fun iv s1 ⟨y, H1, J1, ry, q1⟩ => thn (ho.run pins s1 σ H1 _ J1 q1) fun u s2 ⟨x, H2, J2, rx, a, kvs, b, k, ex, na, ey, pk, q2⟩ => ?_⟩
  subst ex ey
  cases (show u = Value.ref a from rx)
  cases (show iv = Value.ref b from ry)
  obtain ⟨z, hd, xs, rel, dd⟩ := na.dict J2.hok
  refine wpAny_notIn_heap (show X.A.in1.units + 1 < cLine from hu) (pk.is J2.hok) hd dd ?_
  have q := (rel.val k).isSome_eq
  rw [Option.isSome_map] at q
  rw [← q]
  exact ⟨.bl (!(nval kvs k).isSome), H2, J2.tok _, rfl, q2⟩
def sNPut (P : Program) (w : World) (td ty tv : TE) : TS := fun D σ H => tv σ H fun v H1 => td σ H1 fun x H2 => ty σ H2 fun y H3 => ∃ a kvs b k, x = .ref a ∧ NAt P w H3 a kvs ∧ y = .ref b ∧ PairAt H3 b k ∧ nval kvs k = none ∧ kvs.length < sizeLine ∧ D.nx σ (upd H3 a (NDict P w a (kvs ++ [(k, b, v)])))
theorem ps_nput (hu : X.A.units + 2 < cLine) (ho : PE X o td) (hi : PE X i ty) (hv : PE X value tv) (hs : swapsWith value (some (.Subscript o i pos')) pos.line X.env = pure false) : PS X (.Assign [.Subscript o i pos'] value pos) (sNPut X.prog X.w td ty tv) := by
  refine ⟨fun pins s σ H D J h => wpAny_Assign_Subscript (thn (hv.run pins s σ H _ J h) fun r s1 ⟨v, H1, J1, rv, q1⟩ => thn (ho.run pins s1 σ H1 _ J1 q1) fun u s2 ⟨x, H2, J2, rx, q2⟩ => thn (hi.run pins s2 σ H2 _ J2 q2) fun iv s3 ⟨y, H3, J3, ry, a, kvs, b, k, ex, na, ey, pk, nv, hl, q3⟩ => ?_) hs⟩
  subst ex ey
  cases (show u = Value.ref a from rx)
  cases (show iv = Value.ref b from ry)
  obtain ⟨z, hd, xs, rel, dd⟩ := na.dict J3.hok
  have q := rel.val k
  rw [nv] at q
  have hno : atKey xs k = none := by
    cases e : atKey xs k with
    | none => rfl
    | some p => rw [e] at q; exact q.elim
  have hlen : kvs.length = xs.length := Paired.length rel
  refine wpAny_setItem_heap (hsz := by omega) (show X.A.in1.units + 1 < cLine from hu) (pk.is J3.hok) dd fun h' dd' hsame => ?_
  rw [storedH_new hno] at dd'
  obtain ⟨ob, es, ep, g1, g2, g3, g4, _, g5⟩ := dd'
  refine ⟨σ, _, d_write J3 (by rw [na.obj]; exact True.intro) hsame ⟨ob, g1⟩ (NFact.obj ⟨?_, hd, _, Paired.snoc rel ⟨rfl, rfl, rv⟩, ob, es, ep, g1, g2, g3, g4, g5⟩), q3⟩
  rw [List.length_append, List.length_singleton]
  omega
end
end RtN

set_option Elab.async false
namespace Rt
theorem find_idxOf : ∀ (s : List Nat), 0 ∈ s → (List.range s.length).find? (fun i => s.getD i 1 == 0) = some (s.idxOf 0) := by
  intro s h
  have hlt := List.idxOf_lt_length_iff.2 h
  rw [List.find?_range_eq_some]
  refine ⟨?_, List.mem_range.2 hlt, fun j hj => ?_⟩
  · rw [List.getD_eq_getElem?_getD, List.getElem?_eq_getElem hlt]
    simp [List.getElem_idxOf hlt]
  · have hjl : j < s.length := Nat.lt_trans hj hlt
    have h2 := List.not_of_lt_findIdx (p := (· == 0)) (xs := s) hj
    rw [List.getD_eq_getElem?_getD, List.getElem?_eq_getElem hjl]
    simp at h2 ⊢
    exact h2
def mirr (t : List Nat) : List Nat := t.map fun r => t.length - 1 - r
theorem mirr_zero {t : List Nat} (h : IsT t) : 0 ∈ mirr t := by
  have hm := nodup_all t h.nd h.lt (t.length - 1) (by have := h.pos; omega)
  exact List.mem_map.2 ⟨_, hm, by omega⟩
theorem turned_eq {t : List Nat} (h : IsT t) : Su184.turned t = (mirr t).drop ((mirr t).idxOf 0) ++ (mirr t).take ((mirr t).idxOf 0) := by
  have hl : (mirr t).length = t.length := by simp [mirr]
  have := find_idxOf (mirr t) (mirr_zero h)
  rw [hl] at this
  unfold Su184.turned
  show (mirr t).drop _ ++ (mirr t).take _ = _
  rw [show ((List.range t.length).find? fun i => (t.map fun r => t.length - 1 - r).getD i 1 == 0) = some ((mirr t).idxOf 0) from this]
  rfl
theorem nz_idx0 : ∀ r : List Nat, (nz r).idxOf (0 : Int) = r.idxOf 0
  | [] => rfl
  | a :: r => by
    have ih := nz_idx0 r
    unfold nz at ih ⊢
    rw [List.map_cons, List.idxOf_cons, List.idxOf_cons, ih]
    have : ((a : Int) == 0) = (a == 0) := by rw [Bool.eq_iff_iff, beq_iff_eq, beq_iff_eq]; omega
    rw [this]
theorem mTurned_eq {t : List Nat} (h : IsT t) : mTurned (nz t) = nz (Su184.turned t) := by
  have e : (nz t).map (fun x => ((nz t).length : Int) - 1 - x) = nz (mirr t) := by
    unfold nz mirr
    rw [List.map_map, List.map_map, List.length_map]
    apply List.map_congr_left
    intro r hr
    have := h.lt r hr
    show (t.length : Int) - 1 - (r : Int) = ((t.length - 1 - r : Nat) : Int)
    omega
  have hm : (0 : Int) ∈ nz (mirr t) := List.mem_map.2 ⟨0, mirr_zero h, rfl⟩
  have hle : ∀ y ∈ nz (mirr t), (0 : Int) ≤ y := by
    intro y hy
    obtain ⟨n, _, rfl⟩ := List.mem_map.1 hy
    omega
  unfold mTurned
  rw [e]
  unfold mBegun
  rw [leastAt_of hm hle, nz_idx0, turned_eq h]
  unfold nz
  rw [List.map_append, List.map_drop, List.map_take]
theorem turned_isT {t : List Nat} (h : IsT t) : IsT (Su184.turned t) := by
  have hl : (mirr t).length = t.length := by simp [mirr]
  have hlt := List.idxOf_lt_length_iff.2 (mirr_zero h)
  have hperm : (Su184.turned t).Perm (mirr t) := by
    rw [turned_eq h]
    have := List.perm_append_comm (l₁ := (mirr t).drop ((mirr t).idxOf 0)) (l₂ := (mirr t).take ((mirr t).idxOf 0))
    rwa [List.take_append_drop] at this
  have hlen := hperm.length_eq
  refine ⟨by rw [hlen, hl]; exact h.pos, ?_, ?_, ?_⟩
  · rw [turned_eq h, List.getD_eq_getElem?_getD, List.getElem?_append_left (by rw [List.length_drop]; omega), List.getElem?_drop, Nat.add_zero, List.getElem?_eq_getElem hlt, List.getElem_idxOf hlt]; rfl
  · rw [hperm.nodup_iff]
    unfold mirr
    have hn := h.nd
    rw [List.nodup_iff_pairwise_ne] at hn
    rw [List.nodup_iff_pairwise_ne, List.pairwise_map]
    refine List.Pairwise.imp_of_mem ?_ hn
    intro a b ha hb hne e
    have := h.lt a ha
    have := h.lt b hb
    omega
  · intro x hx
    obtain ⟨r, hr, rfl⟩ := List.mem_map.1 (hperm.mem_iff.1 hx)
    rw [hlen, hl]
    have := h.pos
    omega
theorem turned_len {t : List Nat} (h : IsT t) : (Su184.turned t).length = t.length := by
  rw [turned_eq h]
  have : (mirr t).idxOf 0 ≤ (mirr t).length := List.idxOf_le_length
  simp [mirr] at this ⊢
  omega
theorem mDoubled_eq (t : List Nat) : mDoubled (nz t) = nz (Su184.doubled t) := by
  unfold mDoubled Su184.doubled nz
  rw [List.map_append, List.map_map, List.map_map, List.map_map, List.map_map]
  rfl
theorem doubled_isT {t : List Nat} (h : IsT t) : IsT (Su184.doubled t) := by
  have hp := h.pos
  have hn := h.nd
  rw [List.nodup_iff_pairwise_ne] at hn
  refine ⟨by simp [Su184.doubled]; omega, ?_, ?_, ?_⟩
  · have hz := h.zero
    cases t with
    | nil => simp at hp
    | cons a t =>
      have : a = 0 := hz
      rw [this]; rfl
  · unfold Su184.doubled
    rw [List.nodup_append]
    refine ⟨?_, ?_, ?_⟩
    · rw [List.nodup_iff_pairwise_ne, List.pairwise_map]
      exact hn.imp fun h e => h (by omega)
    · rw [List.nodup_iff_pairwise_ne, List.pairwise_map]
      exact hn.imp fun h e => h (by omega)
    · intro a ha b hb e
      obtain ⟨x, _, rfl⟩ := List.mem_map.1 ha
      obtain ⟨y, _, rfl⟩ := List.mem_map.1 hb
      omega
  · intro x hx
    have hl : (Su184.doubled t).length = 2 * t.length := by simp [Su184.doubled]; omega
    rw [hl]
    rcases List.mem_append.1 hx with hx | hx
    · obtain ⟨r, hr, rfl⟩ := List.mem_map.1 hx
      have := h.lt r hr
      omega
    · obtain ⟨r, hr, rfl⟩ := List.mem_map.1 hx
      have := h.lt r hr
      omega
theorem doubled_len (t : List Nat) : (Su184.doubled t).length = 2 * t.length := by simp [Su184.doubled]; omega
end Rt

set_option Elab.async false
set_option maxRecDepth 100000
set_option maxHeartbeats 4000000
namespace Rt
open PySem PySem.Spec PyProof.Rows L2
abbrev sApart : Stmt := topS 37
theorem scAp : FnScope ["calls", "apart", "at", "call", "after", "numbers", "row"] ["calls"] (defScope sApart) := ⟨rfl, rfl, rfl, by decide +kernel, rfl, by decide +kernel, by decide +kernel⟩
abbrev NUMS : List Int := [0, 0, 0, 0, 0, 1, 2, 0, 0, 1, 1, 0]
theorem shape_some {p : Int} {n k : Nat} (h : PySu184.shape p = some (n, k)) : ∃ q : Nat, p = (q : Int) ∧ q < 12 ∧ NUMS[q]? = some (n : Int) ∧ ((q = 0 ∨ q = 4) ∧ k = 1 ∨ ¬ (q = 0 ∨ q = 4) ∧ k = 0) := by
  unfold PySu184.shape at h
  by_cases h0 : p = 0
  · rw [if_pos h0] at h; cases h; exact ⟨0, h0, by decide, rfl, .inl ⟨.inl rfl, rfl⟩⟩
  rw [if_neg h0] at h
  by_cases h1 : p = 1
  · rw [if_pos h1] at h; cases h; exact ⟨1, h1, by decide, rfl, .inr ⟨by decide, rfl⟩⟩
  rw [if_neg h1] at h
  by_cases h2 : p = 2
  · rw [if_pos h2] at h; cases h; exact ⟨2, h2, by decide, rfl, .inr ⟨by decide, rfl⟩⟩
  rw [if_neg h2] at h
  by_cases h3 : p = 3
  · rw [if_pos h3] at h; cases h; exact ⟨3, h3, by decide, rfl, .inr ⟨by decide, rfl⟩⟩
  rw [if_neg h3] at h
  by_cases h4 : p = 4
  · rw [if_pos h4] at h; cases h; exact ⟨4, h4, by decide, rfl, .inl ⟨.inr rfl, rfl⟩⟩
  rw [if_neg h4] at h
  by_cases h5 : p = 5
  · rw [if_pos h5] at h; cases h; exact ⟨5, h5, by decide, rfl, .inr ⟨by decide, rfl⟩⟩
  rw [if_neg h5] at h
  by_cases h6 : p = 6
  · rw [if_pos h6] at h; cases h; exact ⟨6, h6, by decide, rfl, .inr ⟨by decide, rfl⟩⟩
  rw [if_neg h6] at h
  by_cases h7 : p = 7
  · rw [if_pos h7] at h; cases h; exact ⟨7, h7, by decide, rfl, .inr ⟨by decide, rfl⟩⟩
  rw [if_neg h7] at h
  by_cases h8 : p = 8
  · rw [if_pos h8] at h; cases h; exact ⟨8, h8, by decide, rfl, .inr ⟨by decide, rfl⟩⟩
  rw [if_neg h8] at h
  by_cases h9 : p = 9
  · rw [if_pos h9] at h; cases h; exact ⟨9, h9, by decide, rfl, .inr ⟨by decide, rfl⟩⟩
  rw [if_neg h9] at h
  by_cases h10 : p = 10
  · rw [if_pos h10] at h; cases h; exact ⟨10, h10, by decide, rfl, .inr ⟨by decide, rfl⟩⟩
  rw [if_neg h10] at h
  by_cases h11 : p = 11
  · rw [if_pos h11] at h; cases h; exact ⟨11, h11, by decide, rfl, .inr ⟨by decide, rfl⟩⟩
  rw [if_neg h11] at h
  cases h
theorem put_append : ∀ a b : List (List (List Int)), PyFlat.put (a ++ b) = PyFlat.put a ++ PyFlat.put b
  | [], _ => rfl
  | c :: a, b => by show PyFlat.put1 c ++ PyFlat.put (a ++ b) = _; rw [put_append a b, ← List.append_assoc]; rfl
theorem cut_both (xs : List V) (i j : Nat) (h : i ≤ j) (hj : j ≤ xs.length) : cutV xs (some (i : Int)) (some (j : Int)) = (xs.drop i).take (j - i) := by
  unfold cutV
  rw [HT.sIx_nat, HT.sIx_nat, Nat.min_eq_left hj, Nat.min_eq_left (by omega)]
theorem at_mid {l a b : List Int} {x : Int} (e : l = a ++ x :: b) : atI (ivs l) (a.length : Nat) = some (V.int x) := by
  refine atI_nat (ivs_at ?_)
  rw [e, List.getElem?_append_right (Nat.le_refl _), Nat.sub_self]; rfl
theorem cut_mid {l a m b : List Int} (e : l = a ++ m ++ b) : cutV (ivs l) (some (a.length : Nat)) (some ((a.length + m.length : Nat) : Int)) = ivs m := by
  rw [cut_both _ _ _ (by omega) (by rw [e]; simp)]
  unfold ivs
  rw [← List.map_drop, ← List.map_take, e, List.append_assoc, List.drop_left, Nat.add_sub_cancel_left, List.take_left]
def slotI (σ : L2.St) (i : Nat) : Nat := match σ[i]? with
  | some (some (V.int z)) => z.toNat
  | _ => 0
theorem put_nil {cs : List (List (List Int))} (h : ∀ c ∈ cs, PyFlat.okCall PySu184.shape c) (e : PyFlat.put cs = []) : cs = [] := by
  cases cs with
  | nil => rfl
  | cons c cs =>
    obtain ⟨p, a, xs, rfl, _⟩ := h c (by simp)
    simp [PyFlat.put, PyFlat.put1] at e
theorem put_len_le : ∀ cs : List (List (List Int)), (∀ c ∈ cs, PyFlat.okCall PySu184.shape c) → cs.length ≤ (PyFlat.put cs).length
  | [], _ => by simp
  | c :: d, h => by
    obtain ⟨p, nn, ys, rfl, _⟩ := h c (by simp)
    have := put_len_le d fun c hc => h c (by simp [hc])
    simp [PyFlat.put, PyFlat.put1]
    omega
/-- the calls apart, each a tuple at its own place; their rows are new -/
def Aparts (N : Addr → Prop) (H : Hp) (as : List Addr) (cs : List (List (List Int))) : Prop := as.length = cs.length ∧ ∀ (i : Nat) (a : Addr) (c : List (List Int)), as[i]? = some a → cs[i]? = some c →
  ∃ (p : Int) (nums : List Int) (xs : List (List Int)) (na ra : Addr), c = (p :: nums) :: xs ∧ H a = some (.tup [.int p, .ref na, .ref ra]) ∧ H na = some (.lst (ivs nums)) ∧ H ra = some (.lst (ivs (xs.headD []))) ∧ N na ∧ N ra
theorem Aparts.keep {N M : Addr → Prop} {H H' : Hp} {as : List Addr} {cs : List (List (List Int))} (r : Aparts N H as cs) (s : ∀ b o, N b → H b = some o → H' b = some o) (t : ∀ b xs, H b = some (.tup xs) → H' b = some (.tup xs)) (m : ∀ b, N b → M b) : Aparts M H' as cs := by
  refine ⟨r.1, fun i a c h1 h2 => ?_⟩
  obtain ⟨p, nums, xs, na, ra, e1, e2, e3, e4, e5, e6⟩ := r.2 i a c h1 h2
  exact ⟨p, nums, xs, na, ra, e1, t _ _ e2, s _ _ e5 e3, s _ _ e6 e4, m _ e5, m _ e6⟩
theorem Aparts.nil (N : Addr → Prop) (H : Hp) : Aparts N H [] [] := ⟨rfl, fun i a c h => by simp at h⟩
theorem Aparts.add {N : Addr → Prop} {H : Hp} {as : List Addr} {cs : List (List (List Int))} {a na ra : Addr} {p : Int} {nums : List Int} {xs : List (List Int)} (r : Aparts N H as cs) (e2 : H a = some (.tup [.int p, .ref na, .ref ra])) (e3 : H na = some (.lst (ivs nums))) (e4 : H ra = some (.lst (ivs (xs.headD [])))) (e5 : N na) (e6 : N ra) : Aparts N H (as ++ [a]) (cs ++ [(p :: nums) :: xs]) := by
  refine ⟨by simp [r.1], fun i b c h1 h2 => ?_⟩
  by_cases hi : i < as.length
  · rw [List.getElem?_append_left hi] at h1
    rw [List.getElem?_append_left (by rw [← r.1]; exact hi)] at h2
    exact r.2 i b c h1 h2
  · rw [List.getElem?_append_right (by omega)] at h1
    rw [List.getElem?_append_right (by rw [← r.1]; omega), ← r.1] at h2
    cases e : i - as.length with
    | zero =>
      rw [e] at h1 h2
      have h1' : a = b := by simpa using h1
      have h2' : (p :: nums) :: xs = c := by simpa using h2
      subst h1' h2'
      exact ⟨p, nums, xs, na, ra, rfl, e2, e3, e4, e5, e6⟩
    | succ n => rw [e] at h1; simp at h1
section
variable {P : Program} {w : World} {K : PySem.W.Frag} {mg : Str → Option Value} {base : Heap}
/-- what the file's top has: whole numbers by name -/
def GInt (mg : Str → Option Value) (x : Str) (i : Int) : Prop := ∃ t, mg x = some (.int i t)
def spApart (K : PySem.W.Frag) : Sp := fun vs H Q _ => ∃ (a : Addr) (cs : List (List (List Int))), vs = [.ref a] ∧ SqL K H a (ivs (PyFlat.put cs)) ∧ (PyFlat.put cs).length ≤ 4800 ∧ (∀ c ∈ cs, PyFlat.okCall PySu184.shape c) ∧
  ∀ (H' : Hp) (p : Addr) (as : List Addr), Same H H' → H p = none → H' p = some (.lst (as.map V.ref)) → Aparts (fun b => H b = none) H' as cs → Q (.ref p) H'
theorem ok_apart {f aN : Addr} {fd : FuncData} (F : Fun K "calls_apart" "calls_apart" sApart f fd) (ml : mg "len" = none) (gT : GInt mg "TAKE" 0) (gB : GInt mg "BRINGS" 4) (gN : mg "NUMBERS" = some (.ref aN)) (hN : ∀ H, SqT K H aN (ivs NUMS)) : FnOk P w K mg base CX0 1 f fd ["calls"] (spApart K) := by
  obtain ⟨tT, gT⟩ := gT
  obtain ⟨tB, gB⟩ := gB
  refine F.ok scAp (fun vs H Q E h => ?_) (fun cdv A outer s H vs Q E hr h => ?_)
  · obtain ⟨a, cs, rfl, _⟩ := h
    rfl
  · obtain ⟨a, cs, rfl, hS, hlen, hok, q⟩ := h
    refine ⟨_, pss_cons (ps_set (i := 1) scAp.nd rfl (Or.inl rfl) (pe_lst pa_nil)) (pss_cons (ps_set (i := 2) scAp.nd rfl (Or.inl rfl) pe_int)
      (pss_cons (ps_while PassesOwn.never (pt_cmpR op_lt (pv 2) (pe_callB call_len_seq (by rfl) ml PySem.boot_len (pa_cons (pv 0) pa_nil)) (nomark _))
        (pss_cons (ps_set (i := 3) scAp.nd rfl (Or.inl rfl) (pe_ix ix_list (pv 0) (pv 2) (fun _ _ => rfl)))
        (pss_cons (ps_set (i := 4) scAp.nd rfl (Or.inl rfl) (pe_op op_add (pe_op op_add (pv 2) pe_int) (pe_ix ix_tup (pe_glob (v := .ref aN) (by rfl) gN rfl) (pv 3) (fun _ _ => rfl))))
        (pss_cons (ps_set (i := 5) scAp.nd rfl (Or.inl rfl) (pe_slice sl_list (pv 0) (po_some (pe_op op_add (pv 2) pe_int)) (po_some (pv 4))))
        (pss_cons (ps_set (i := 6) scAp.nd rfl (Or.inl rfl) (pe_lst pa_nil))
        (pss_cons (ps_if (PW.pt (pw_or (pt_cmpR op_eq (pv 3) (pe_glob (v := .int 0) (by rfl) gT ⟨_, rfl⟩) (nomark _)) (pw_or1 (pt_cmpR op_eq (pv 3) (pe_glob (v := .int 4) (by rfl) gB ⟨_, rfl⟩) (nomark _)))))
          (pss_cons (ps_set (i := 6) scAp.nd rfl (Or.inl rfl) (pe_slice sl_list (pv 0) (po_some (pe_op op_add (pv 4) pe_int)) (po_some (pe_op op_add (pe_op op_add (pv 4) pe_int) (pe_ix ix_list (pv 0) (pv 4) (fun _ _ => rfl))))))
          (pss_one (ps_set (i := 4) scAp.nd rfl (Or.inl rfl) (pe_op op_add (pe_op op_add (pv 4) pe_int) (pe_ix ix_list (pv 0) (pv 4) (fun _ _ => rfl)))))) pss_nil)
        (pss_cons (ps_expr (pe_bm PySem.F.plainAttrs_list PySem.F.slot_list_append PySem.F.type_list_append mt_append (pv 1) (pa_cons (pe_tup (pa_cons (pv 3) (pa_cons (pv 5) (pa_cons (pv 6) pa_nil)))) pa_nil)))
        (pss_one (ps_set (i := 2) scAp.nd rfl (Or.inl rfl) (pv 4))))))))))
      (pss_one (ps_ret (pv 1))))), ?_⟩
    refine ⟨Nat.zero_le _, fun ap nap => ?_⟩
    have s1 : Same H (upd H ap (.lst [])) := same_new nap
    generalize hle : PyFlat.put cs = l at *
    refine while_by (fun σ H' => ∃ done rest as y3 y4 y5 y6, cs = done ++ rest ∧ σ = [some (.ref a), some (.ref ap), some (.int ((PyFlat.put done).length : Nat)), y3, y4, y5, y6] ∧ Same H H' ∧ H' ap = some (.lst (as.map V.ref)) ∧ (∀ b ∈ as, b ≠ ap) ∧ Aparts (fun b => H b = none ∧ b ≠ ap) H' as done)
      (fun σ _ => l.length - slotI σ 2) ?_ ?_ ?_
    · exact ⟨[], cs, [], none, none, none, none, rfl, rfl, s1, upd_same, by simp, Aparts.nil _ _⟩
    · rintro σ H' ⟨done, rest, as, y3, y4, y5, y6, ecs, rfl, sm, hap, hne, hA⟩
      have el : l = PyFlat.put done ++ PyFlat.put rest := by rw [← hle, ecs, put_append]
      refine ⟨_, rfl, _, rfl, a, _, rfl, .inl (sm.seq hS), _, _, rfl, rfl, _, rfl, ?_⟩
      refine ifB (fun h => ?_) (fun h => ?_)
      · have h1 : (((PyFlat.put done).length : Nat) : Int) < ((ivs l).length : Nat) := of_decide_eq_true h
        rw [List.length_map] at h1
        obtain ⟨c, rest, rfl⟩ : ∃ c r, rest = c :: r := by
          cases rest with
          | nil => rw [el] at h1; simp [PyFlat.put] at h1
          | cons c r => exact ⟨c, r, rfl⟩
        obtain ⟨p, nums, xs, rfl, hsh⟩ := hok c (by rw [ecs]; simp)
        obtain ⟨pq, rfl, hq12, hnum, hrows⟩ := shape_some hsh
        have el2 : l = PyFlat.put done ++ ((pq : Int) :: (nums ++ (PyFlat.putRows xs ++ PyFlat.put rest))) := by
          rw [el]; simp [PyFlat.put, PyFlat.put1]
        generalize hi : (PyFlat.put done).length = i at *
        have hA' : SqL K H' a (ivs l) := sm.seq hS
        have g0 : atI (ivs l) (i : Nat) = some (V.int (pq : Nat)) := by rw [← hi]; exact at_mid el2
        have el3 : l = (PyFlat.put done ++ [(pq : Int)]) ++ nums ++ (PyFlat.putRows xs ++ PyFlat.put rest) := by rw [el2]; simp
        have hi1 : (PyFlat.put done ++ [(pq : Int)]).length = i + 1 := by simp [hi]
        have g1 := cut_mid el3
        rw [hi1] at g1
        have ei1 : ((i : Nat) : Int) + 1 = ((i + 1 : Nat) : Int) := by omega
        have ein : ((i : Nat) : Int) + 1 + (nums.length : Nat) = ((i + 1 + nums.length : Nat) : Int) := by omega
        -- call, after, numbers, row
        refine ⟨_, rfl, _, rfl, a, _, _, _, rfl, rfl, hA', g0, ?_⟩
        refine ⟨_, rfl, _, _, rfl, rfl, _, rfl, aN, _, _, V.int (nums.length : Nat), rfl, rfl, hN _, atI_nat (ivs_at hnum), _, _, rfl, rfl, ?_⟩
        refine ⟨_, rfl, _, rfl, _, _, rfl, rfl, _, rfl, _, rfl, _, rfl, a, _, rfl, hA', fun na nna => ?_⟩
        rw [ein, ei1, g1]
        have s2 : Same H' (upd H' na (.lst (ivs nums))) := same_new nna
        refine ⟨Nat.zero_le _, fun r0 nr0 => ?_⟩
        have s3 : Same (upd H' na (.lst (ivs nums))) (upd (upd H' na (.lst (ivs nums))) r0 (.lst [])) := same_new nr0
        have hna3 : upd (upd H' na (.lst (ivs nums))) r0 (.lst []) na = some (.lst (ivs nums)) := s3 _ _ upd_same
        have hr03 : upd (upd H' na (.lst (ivs nums))) r0 (.lst []) r0 = some (.lst []) := upd_same
        have s23 : Same H' (upd (upd H' na (.lst (ivs nums))) r0 (.lst [])) := s2.trans s3
        generalize upd (upd H' na (.lst (ivs nums))) r0 (.lst []) = H3 at *
        have n0na : H na = none := none_of sm nna
        have n0r0 : H r0 = none := none_of (sm.trans s2) nr0
        -- the end of a turn
        have fin : ∀ (D : Ends) (H4 : Hp) (ra : Addr) (nx : Nat), Same H3 H4 → H4 ra = some (.lst (ivs (xs.headD []))) → (H ra = none ∧ ra ≠ ap) → nx = (PyFlat.put (done ++ [((pq : Int) :: nums) :: xs])).length → i < nx → nx ≤ l.length →
            (∀ σ' H'', (∃ done rest as y3 y4 y5 y6, cs = done ++ rest ∧ σ' = [some (.ref a), some (.ref ap), some (.int ((PyFlat.put done).length : Nat)), y3, y4, y5, y6] ∧ Same H H'' ∧ H'' ap = some (.lst (as.map V.ref)) ∧ (∀ b ∈ as, b ≠ ap) ∧ Aparts (fun b => H b = none ∧ b ≠ ap) H'' as done) ∧ l.length - slotI σ' 2 < l.length - i → D.nx σ' H'') →
            (tSeq (tDrop (tBM K "list" rAppend (tVar 1) (tCons (tTup (tCons (tVar 3) (tCons (tVar 5) (tCons (tVar 6) tNil)))) tNil))) (tAsg (tVar 4) (gName 2))) D
              [some (.ref a), some (.ref ap), some (.int (i : Nat)), some (.int (pq : Nat)), some (.int (nx : Nat)), some (.ref na), some (.ref ra)] H4 := by
          intro D H4 ra nx s4 hra n0ra hnx hlt hle' next
          have hap4 := s4 _ _ (s23 _ _ hap)
          refine ⟨_, rfl, .inl ⟨rfl, _, SqL.of hap4⟩, _, rfl, _, rfl, _, rfl, by show 3 ≤ sizeLine; decide, fun tp ntp => ?_⟩
          have s5 : Same H4 (upd H4 tp (.tup [.int (pq : Nat), .ref na, .ref ra])) := same_new ntp
          have hapt : ap ≠ tp := ne_of_none hap4 ntp
          have sall : Same H' (upd H4 tp (.tup [.int (pq : Nat), .ref na, .ref ra])) := (s23.trans s4).trans s5
          refine ⟨ap, _, _, rfl, rfl, s5 _ _ hap4, ?_, ?_⟩
          · apply small
            rw [List.length_map, hA.1]
            have := put_len_le done fun c hc => hok c (by rw [ecs]; simp [hc])
            omega
          · refine ⟨_, rfl, next _ _ ⟨⟨done ++ [((pq : Int) :: nums) :: xs], rest, as ++ [tp], some (.int (pq : Nat)), some (.int (nx : Nat)), some (.ref na), some (.ref ra), by rw [ecs]; simp, ?_, same_at (sm.trans sall) nap, ?_, ?_, ?_⟩, ?_⟩⟩
            · rw [← hnx]; rfl
            · rw [upd_same, List.map_append]; rfl
            · intro b hb
              rcases List.mem_append.1 hb with hb | hb
              · exact hne b hb
              · rw [List.mem_singleton.1 hb]; exact hapt.symm
            · have hA4 : Aparts (fun b => H b = none ∧ b ≠ ap) (upd H4 tp (.tup [.int (pq : Nat), .ref na, .ref ra])) as done := hA.keep (fun b o _ e => sall _ _ e) (fun b ys e => sall _ _ e) fun _ h => h
              have hA5 := hA4.add (a := tp) (na := na) (ra := ra) (p := (pq : Int)) (nums := nums) (xs := xs) upd_same (s5 _ _ (s4 _ _ hna3)) (s5 _ _ hra) ⟨n0na, (ne_of_none hap nna).symm⟩ n0ra
              refine hA5.keep (fun b o hb e => by rw [upd_ne hb.2]; exact e) (fun b ys e => ?_) fun _ h => h
              rw [upd_ne (ne_of e (s5 _ _ hap4) (by intro z; cases z))]; exact e
            · show l.length - ((nx : Nat) : Int).toNat < l.length - i
              omega
        have hput : (PyFlat.put (done ++ [((pq : Int) :: nums) :: xs])).length = i + 1 + nums.length + (PyFlat.putRows xs).length := by
          rw [put_append, List.length_append, hi]
          simp [PyFlat.put, PyFlat.put1]
          omega
        have hll : l.length = i + 1 + nums.length + (PyFlat.putRows xs).length + (PyFlat.put rest).length := by
          rw [el3]; simp [hi]; omega
        have norow : ¬ (pq = 0 ∨ pq = 4) → xs = [] := fun h => by
          rcases hrows with ⟨h', _⟩ | ⟨_, h'⟩
          · exact absurd h' h
          · exact List.length_eq_zero_iff.1 h'
        have hasrow : (pq = 0 ∨ pq = 4) → ∃ r, xs = [r] := fun h => by
          rcases hrows with ⟨_, h'⟩ | ⟨h', _⟩
          · cases xs with
            | nil => simp at h'
            | cons r xs' =>
              cases xs' with
              | nil => exact ⟨r, rfl⟩
              | cons _ _ => simp at h'
          · exact absurd h h'
        -- with a row
        have withRow : (pq = 0 ∨ pq = 4) → ∀ D : Ends, (∀ σ' H'', (∃ done rest as y3 y4 y5 y6, cs = done ++ rest ∧ σ' = [some (.ref a), some (.ref ap), some (.int ((PyFlat.put done).length : Nat)), y3, y4, y5, y6] ∧ Same H H'' ∧ H'' ap = some (.lst (as.map V.ref)) ∧ (∀ b ∈ as, b ≠ ap) ∧ Aparts (fun b => H b = none ∧ b ≠ ap) H'' as done) ∧ l.length - slotI σ' 2 < l.length - i → D.nx σ' H'') →
            (tSeq (tSeq (tAsg (tSl (rSlL K) (tVar 0) (tPart (tOp (rI0 fun i j => .int (i + j)) (tVar 4) (tC (.int 1)))) (tPart (tOp (rI0 fun i j => .int (i + j)) (tOp (rI0 fun i j => .int (i + j)) (tVar 4) (tC (.int 1))) (tOp (rIxL K) (tVar 0) (tVar 4))))) (gName 6)) (tAsg (tOp (rI0 fun i j => .int (i + j)) (tOp (rI0 fun i j => .int (i + j)) (tVar 4) (tC (.int 1))) (tOp (rIxL K) (tVar 0) (tVar 4))) (gName 4)))
              (tSeq (tDrop (tBM K "list" rAppend (tVar 1) (tCons (tTup (tCons (tVar 3) (tCons (tVar 5) (tCons (tVar 6) tNil)))) tNil))) (tAsg (tVar 4) (gName 2)))) D
              [some (.ref a), some (.ref ap), some (.int (i : Nat)), some (.int (pq : Nat)), some (.int ((i + 1 + nums.length : Nat) : Int)), some (.ref na), some (.ref r0)] H3 := by
          intro hp D next
          obtain ⟨r, rfl⟩ := hasrow hp
          have el4 : l = (PyFlat.put done ++ [(pq : Int)] ++ nums) ++ ((r.length : Nat) : Int) :: (r ++ PyFlat.put rest) := by rw [el3]; simp [PyFlat.putRows, PyFlat.putRow]
          have hj : (PyFlat.put done ++ [(pq : Int)] ++ nums).length = i + 1 + nums.length := by simp [hi]; omega
          have g2 := at_mid el4
          rw [hj] at g2
          have el5 : l = (PyFlat.put done ++ [(pq : Int)] ++ nums ++ [((r.length : Nat) : Int)]) ++ r ++ PyFlat.put rest := by rw [el4]; simp
          have hj5 : (PyFlat.put done ++ [(pq : Int)] ++ nums ++ [((r.length : Nat) : Int)]).length = i + 1 + nums.length + 1 := by simp [hi]; omega
          have g3 := cut_mid el5
          rw [hj5] at g3
          have hA3 : SqL K H3 a (ivs l) := s23.seq hA'
          have ea : ((i + 1 + nums.length : Nat) : Int) + 1 = ((i + 1 + nums.length + 1 : Nat) : Int) := by omega
          have eb : ((i + 1 + nums.length : Nat) : Int) + 1 + (r.length : Nat) = ((i + 1 + nums.length + 1 + r.length : Nat) : Int) := by omega
          refine ⟨_, rfl, _, rfl, _, _, rfl, rfl, _, rfl, _, rfl, _, _, rfl, rfl, _, rfl, _, rfl, a, _, _, _, rfl, rfl, hA3, g2, _, _, rfl, rfl, _, rfl, a, _, rfl, hA3, fun ra nra => ?_⟩
          rw [eb, ea, g3]
          have s4 : Same H3 (upd H3 ra (.lst (ivs r))) := same_new nra
          refine ⟨_, rfl, _, _, rfl, rfl, _, rfl, _, rfl, a, _, _, _, rfl, rfl, s4.seq hA3, g2, _, _, rfl, rfl, ?_⟩
          rw [show (fun (i j : Int) => V.int (i + j)) (((i + 1 + nums.length : Nat) : Int) + 1) ((r.length : Nat) : Int) = V.int ((i + 1 + nums.length + 1 + r.length : Nat) : Int) from congrArg V.int eb]
          have hlr : (PyFlat.putRows [r]).length = 1 + r.length := by simp [PyFlat.putRows, PyFlat.putRow]; omega
          exact fin D _ ra _ s4 upd_same ⟨none_of (sm.trans s23) nra, (ne_of_none (s23 _ _ hap) nra).symm⟩ (by rw [hput, hlr]; omega) (by omega) (by rw [hll, hlr]; omega) next
        refine ⟨_, rfl, rfl, _, rfl, ?_⟩
        refine ifB (fun h => ?_) (fun h => ?_)
        · have hp : (pq : Int) = 0 := V.int.inj (of_decide_eq_true h)
          exact withRow (.inl (by omega)) _ fun σ' H'' h => ⟨h.1, h.2⟩
        · have hp0 : ¬ pq = 0 := fun e => of_decide_eq_false h (by rw [e]; rfl)
          refine ⟨_, rfl, rfl, _, rfl, ?_⟩
          refine ifB (fun h => ?_) (fun h => ?_)
          · have hp : (pq : Int) = 4 := V.int.inj (of_decide_eq_true h)
            exact withRow (.inr (by omega)) _ fun σ' H'' h => ⟨h.1, h.2⟩
          · have hp4 : ¬ pq = 4 := fun e => of_decide_eq_false h (by rw [e]; rfl)
            have hx := norow (by omega)
            subst hx
            refine fin _ H3 r0 _ (same_refl _) hr03 ⟨n0r0, (ne_of_none (s2 _ _ hap) nr0).symm⟩ (by rw [hput]; rfl) (by omega) (by rw [hll]; simp [PyFlat.putRows]) fun σ' H'' h => ⟨h.1, h.2⟩
      · have h1 : ¬ (((PyFlat.put done).length : Nat) : Int) < ((ivs l).length : Nat) := of_decide_eq_false h
        rw [List.length_map, el, List.length_append] at h1
        have h2 : rest = [] := put_nil (fun c hc => hok c (by rw [ecs]; simp [hc])) (List.length_eq_zero_iff.1 (by omega))
        subst h2
        rw [List.append_nil] at ecs
        subst ecs
        exact ⟨_, rfl, q H' ap as sm nap hap (hA.keep (fun _ _ _ e => e) (fun _ _ e => e) fun _ h => h.1)⟩
    · intro σ H Q Q' hq h
      obtain ⟨v, e1, w, e2, p, ys, e3, e4, i, j, e5, e6, k, e7, q⟩ := h
      exact ⟨v, e1, w, e2, p, ys, e3, e4, i, j, e5, e6, k, e7, hq _ _ q⟩
end
end Rt

set_option Elab.async false
set_option maxRecDepth 100000
set_option maxHeartbeats 2000000
namespace Rt
open PySem PySem.Spec PyProof.Rows L2
theorem scKo : FnScope ["steps", "rows", "length", "longer", "row", "number"] ["steps"] (defScope sKindsOf) := ⟨rfl, rfl, rfl, by decide +kernel, rfl, by decide +kernel, by decide +kernel⟩
/-! ### all types of so many steps, as the program lists them -/
def upN (k : Nat) : List Nat := (List.range (k - 1)).map fun i => 1 + i
def growN (k : Nat) (r : List Nat) : List (List Nat) := ((upN k).filter fun n => !r.contains n).map fun n => r ++ [n]
def kindsM (k : Nat) : Nat → List (List Nat)
  | 0 => [[0]]
  | m + 1 => (kindsM k m).flatMap (growN k)
theorem kinds_all (k : Nat) (h1 : 1 ≤ k) (h5 : k ≤ 5) : kindsM k (k - 1) = Su184.all k := by
  match k, h1, h5 with
  | 1, _, _ => decide +kernel
  | 2, _, _ => decide +kernel
  | 3, _, _ => decide +kernel
  | 4, _, _ => decide +kernel
  | 5, _, _ => decide +kernel
theorem all_types (k : Nat) (h1 : 1 ≤ k) (h5 : k ≤ 5) : ((Su184.all k).all fun u => Su184.isType u && u.length == k) = true ∧ (Su184.all k).length ≤ 24 := by
  match k, h1, h5 with
  | 1, _, _ => decide +kernel
  | 2, _, _ => decide +kernel
  | 3, _, _ => decide +kernel
  | 4, _, _ => decide +kernel
  | 5, _, _ => decide +kernel
theorem all_isT {k : Nat} (h1 : 1 ≤ k) (h5 : k ≤ 5) {u : List Nat} (hu : u ∈ Su184.all k) : IsT u ∧ u.length = k := by
  have h := List.all_eq_true.1 (all_types k h1 h5).1 u hu
  rw [Bool.and_eq_true, beq_iff_eq] at h
  exact ⟨(isType_iff u).1 h.1, h.2⟩
theorem growN_len {k : Nat} (h5 : k ≤ 5) (r : List Nat) : (growN k r).length ≤ 4 := by
  unfold growN
  rw [List.length_map]
  have h := List.length_filter_le (fun n => !r.contains n) (upN k)
  have h2 : (upN k).length = k - 1 := by simp [upN]
  omega
theorem kindsM_len {k : Nat} (h5 : k ≤ 5) : ∀ m, (kindsM k m).length ≤ 4 ^ m
  | 0 => by simp [kindsM]
  | m + 1 => by
    have h1 := flat_len (growN k) 4 (kindsM k m) (growN_len h5)
    have h2 := kindsM_len h5 m
    show ((kindsM k m).flatMap (growN k)).length ≤ 4 ^ (m + 1)
    rw [Nat.pow_succ]
    omega
theorem kindsM_ok {k : Nat} : ∀ m, ∀ r ∈ kindsM k m, r.length = m + 1
  | 0, r, hr => by rw [List.mem_singleton.1 hr]; rfl
  | m + 1, r, hr => by
    obtain ⟨v, hv, hr⟩ := List.mem_flatMap.1 hr
    obtain ⟨n, _, rfl⟩ := List.mem_map.1 hr
    rw [List.length_append, kindsM_ok m v hv]; rfl
/-! ### tuples, each at its own place -/
theorem Tups.nil (H : Hp) : Tups H [] [] := ⟨rfl, fun i a l h => by simp at h⟩
theorem Tups.app {H : Hp} {as bs : List Addr} {L M : List (List Nat)} (r : Tups H as L) (q : Tups H bs M) : Tups H (as ++ bs) (L ++ M) := by
  refine ⟨by simp [r.1, q.1], fun i a m h1 h2 => ?_⟩
  by_cases hi : i < as.length
  · rw [List.getElem?_append_left hi] at h1
    rw [List.getElem?_append_left (by rw [← r.1]; exact hi)] at h2
    exact r.2 i a m h1 h2
  · rw [List.getElem?_append_right (by omega)] at h1
    rw [List.getElem?_append_right (by rw [← r.1]; omega), ← r.1] at h2
    exact q.2 _ a m h1 h2
theorem Tups.one {H : Hp} {p : Addr} {l : List Nat} (h : H p = some (.tup (ivs (nz l)))) : Tups H [p] [l] := ⟨rfl, fun i a m h1 h2 => by
  cases i with
  | zero =>
    have e1 : p = a := by simpa using h1
    have e2 : l = m := by simpa using h2
    rw [← e1, ← e2]; exact h
  | succ n => simp at h1⟩
theorem Tups.get {H : Hp} {as : List Addr} {L : List (List Nat)} (r : Tups H as L) {i : Nat} {v : V} (h : (as.map V.ref)[i]? = some v) : ∃ a l, v = .ref a ∧ as[i]? = some a ∧ L[i]? = some l ∧ H a = some (.tup (ivs (nz l))) := by
  rw [List.getElem?_map] at h
  cases e : as[i]? with
  | none => rw [e] at h; cases h
  | some a =>
    rw [e] at h
    have hi : i < L.length := by
      rw [← r.1]
      exact (List.getElem?_eq_some_iff.1 e).1
    exact ⟨a, L[i], (Option.some.inj h).symm, rfl, List.getElem?_eq_getElem hi, r.2 i a _ e (List.getElem?_eq_getElem hi)⟩
/-- what is no tuple may change -/
theorem Tups.keep {H H' : Hp} {as : List Addr} {L : List (List Nat)} (r : Tups H as L) (s : ∀ b zs, H b = some (.tup zs) → H' b = some (.tup zs)) : Tups H' as L :=
  ⟨r.1, fun i a l h1 h2 => s _ _ (r.2 i a l h1 h2)⟩
theorem keep_put {H : Hp} {p : Addr} {o o' : HO} (e : H p = some o) (h : ∀ zs, o ≠ .tup zs) : ∀ b zs, H b = some (.tup zs) → upd H p o' b = some (.tup zs) := fun b zs q => by
  have : b ≠ p := by
    rintro rfl
    rw [e] at q
    exact h zs (Option.some.inj q)
  rw [upd_ne this]; exact q
theorem inV_nz (n : Nat) (r : List Nat) : inV (V.int (n : Int)) (ivs (nz r)) = r.contains n := by
  unfold inV ivs nz
  rw [List.map_map, List.any_map]
  induction r with
  | nil => rfl
  | cons a r ih =>
    rw [List.any_cons, List.contains_cons, ih]
    congr 1
    show ((a : Int) == (n : Int)) = (n == a)
    rw [Bool.eq_iff_iff, beq_iff_eq, beq_iff_eq]
    omega
section
variable {P : Program} {w : World} {K : PySem.W.Frag} {mg : Str → Option Value} {base : Heap}
def spKo : Sp := fun vs H Q _ => ∃ k : Nat, vs = [.int k] ∧ 1 ≤ k ∧ k ≤ 5 ∧
  ∀ (H' : Hp) (p : Addr) (ts : List Addr), Same H H' → H p = none → H' p = some (.lst (ts.map V.ref)) → Tups H' ts (Su184.all k) → Q (.ref p) H'
theorem ok_kindsOf {f : Addr} {fd : FuncData} (F : Fun K "kinds_of" "kinds_of" sKindsOf f fd) (mr : mg "range" = none) : FnOk P w K mg base CX0 1 f fd ["steps"] spKo := by
  refine F.ok scKo (fun vs H Q E h => ?_) (fun cdv A outer s H vs Q E hr h => ?_)
  · obtain ⟨k, rfl, _⟩ := h
    rfl
  · obtain ⟨k, rfl, hk1, hk5, q⟩ := h
    refine ⟨_, pss_cons (ps_set (i := 1) scKo.nd rfl (Or.inl rfl) (pe_lst (pa_cons (pe_tup (pa_cons pe_int pa_nil)) pa_nil)))
      (pss_cons (ps_for PassesOwn.never rfl (pi_range2 (by rfl) mr (pa_cons pe_int (pa_cons (pv 0) pa_nil))) (pg_name (i := 2) scKo.nd rfl (Or.inl rfl))
        (pss_cons (ps_set (i := 3) scKo.nd rfl (Or.inl rfl) (pe_lst pa_nil))
        (pss_cons (ps_for PassesOwn.never rfl (pi_list (pv 1)) (pg_name (i := 4) scKo.nd rfl (Or.inr rfl))
          (pss_one (ps_expr (pe_bm PySem.F.plainAttrs_list PySem.F.slot_list_extend PySem.F.type_list_extend mt_extend (pv 3) (pa_cons
            (pe_lc (own := [("number", 5)]) (g := gName 5) (tt := tTest (tOp (rIn K true) (tVar 5) (tVar 4))) (te := tOp (rCatT K) (tVar 4) (tTup (tCons (tVar 5) tNil))) rfl scKo.nd
              (pi_range2 (by rfl) mr (pa_cons pe_int (pa_cons (pv 0) pa_nil)))
              (blkOk_by (N := ["steps", "rows", "length", "longer", "row", "number"]) (sc := defScope sKindsOf) (by decide +kernel))
              (fun _ _ _ _ _ => pg_name (i := 5) scKo.nd rfl (Or.inl rfl)) (fun _ _ _ _ _ => pts_one (pt_cmpR op_notIn_seq (pv 5) (pv 4) (by rfl)))
              (fun _ _ _ _ _ => pe_op op_catT (pv 4) (pe_tup (pa_cons (pv 5) pa_nil)))) pa_nil)))))
        (pss_one (ps_set (i := 1) scKo.nd rfl (Or.inl rfl) (pv 3))))))
      (pss_one (ps_ret (pv 1)))), ?_⟩
    -- rows = [(0,)]
    refine ⟨by show 1 ≤ sizeLine; decide, fun t0 nt0 => ?_⟩
    refine ⟨by show 1 ≤ sizeLine; decide, fun r0 nr0 => ?_⟩
    have s0 : Same H (upd H t0 (.tup [.int 0])) := same_new nt0
    have s1 : Same (upd H t0 (.tup [.int 0])) (upd (upd H t0 (.tup [.int 0])) r0 (.lst [.ref t0])) := same_new nr0
    refine ⟨_, rfl, 1, k, rfl, ⟨by omega, by omega, by omega, by omega⟩, ?_⟩
    rw [show ((k : Int) - 1).toNat = k - 1 by omega]
    refine for_range (lo := 1) (n := k - 1) (fun i σ H' => ∃ ra ts y2 y3 y4, σ = [some (.int k), some (.ref ra), y2, y3, y4, none] ∧ Same H H' ∧ H ra = none ∧ H' ra = some (.lst (ts.map V.ref)) ∧ Tups H' ts (kindsM k i)) ?_ ?_ ?_
    · exact ⟨r0, [t0], none, none, none, rfl, s0.trans s1, none_of s0 nr0, upd_same, Tups.one (s1 _ _ upd_same)⟩
    · rintro i σ H' hi ⟨ra, ts, y2, y3, y4, rfl, sm, nra, hra, hT⟩
      refine ⟨Nat.zero_le _, fun lo nlo => ?_⟩
      have slo : Same H' (upd H' lo (.lst [])) := same_new nlo
      refine ⟨_, rfl, ra, rfl, ⟨_, SqL.of (slo _ _ hra)⟩, ?_⟩
      refine for_list (K := K) (a := ra) (xs := ts.map V.ref) (fun j σ H2 => ∃ ls y4, σ = [some (.int k), some (.ref ra), some (.int (1 + (i : Int))), some (.ref lo), y4, none] ∧ Same H' H2 ∧ H2 lo = some (.lst (ls.map V.ref)) ∧ Tups H2 ls (((kindsM k i).take j).flatMap (growN k))) ?_ ?_ ?_ ?_
      · exact ⟨[], y4, rfl, slo, upd_same, Tups.nil _⟩
      · rintro j σ H2 _ ⟨ls, y4, rfl, sm2, _⟩
        exact SqL.of (sm2 _ _ hra)
      · rintro j x σ H2 hx ⟨ls, y4, rfl, sm2, hlo, hL⟩
        obtain ⟨wj, row, rfl, hj1, hj2, hwj⟩ := (hT.same sm2).get hx
        have hmem : row ∈ kindsM k i := List.mem_of_getElem? hj2
        have hrl := kindsM_ok i row hmem
        refine ⟨_, rfl, .inl ⟨rfl, _, SqL.of hlo⟩, ?_⟩
        refine ⟨_, rfl, 1, k, rfl, ⟨by omega, by omega, by omega, by omega⟩, fun D nD => ?_⟩
        rw [show ((k : Int) - 1).toNat = k - 1 by omega]
        have hDlo : lo ≠ D := ne_of_none hlo nD
        refine lc_range (lo := 1) (n := k - 1) (fun m H3 => Same H2 H3 ∧ ∃ bs, H3 D = some (.lst (bs.map V.ref)) ∧ Tups H3 bs ((((upN k).take m).filter fun n => !row.contains n).map fun n => row ++ [n])) ?_ ?_ ?_
        · exact ⟨same_new nD, [], upd_same, Tups.nil _⟩
        · rintro m H3 hm ⟨sm3, bs, hD, hB⟩
          have hn : (upN k)[m]? = some (1 + m) := by
            unfold upN
            rw [List.getElem?_map, List.getElem?_range hm]; rfl
          refine ⟨rfl, _, rfl, _, rfl, wj, _, rfl, .inr (tSq sm3 hwj), rfl, flat_ivs _, _, rfl, ?_⟩
          rw [show (1 : Int) + (m : Int) = ((1 + m : Nat) : Int) by omega, inV_nz]
          refine ifB (fun h => ?_) (fun h => ?_)
          · have hc : (!row.contains (1 + m)) = true := h
            refine ⟨_, rfl, _, rfl, by show 1 ≤ sizeLine; decide, fun t nt => ?_⟩
            have st : Same H3 (upd H3 t (.tup [V.int ((1 + m : Nat) : Int)])) := same_new nt
            refine ⟨wj, t, _, _, rfl, rfl, tSq (sm3.trans st) hwj, .inl (.inl upd_same), ?_, ?_, (fun z => by cases z), fun _ e ne => ?_⟩
            · intro z
              have : (ivs (nz row)).length = 0 := by rw [z]; rfl
              simp at this
              rw [this] at hrl
              simp at hrl
            · refine Nat.le_of_lt (small ?_)
              simp only [List.length_map, List.length_cons, List.length_nil]
              omega
            have se := same_new (o := .tup (ivs (nz row) ++ [V.int ((1 + m : Nat) : Int)])) ne
            refine ⟨_, se _ _ (st _ _ hD), ?_, same_at (sm3.trans (st.trans se)) nD, bs ++ [e], ?_, ?_⟩
            · apply small
              rw [List.length_map, hB.1, List.length_map]
              have h1 := List.length_filter_le (fun n => !row.contains n) ((upN k).take m)
              rw [List.length_take] at h1
              omega
            · rw [upd_same, List.map_append]; rfl
            · rw [take_one hn, List.filter_append, List.filter_cons_of_pos (p := fun n => !row.contains n) hc, List.filter_nil, List.map_append]
              refine (Tups.app (hB.same (st.trans se)) (Tups.one ?_)).keep (keep_put (se _ _ (st _ _ hD)) (by intro zs z; cases z))
              rw [upd_same]
              unfold nz ivs
              rw [List.map_append, List.map_append]; rfl
          · have hc : ¬ (!row.contains (1 + m)) = true := by
              have h' : (!row.contains (1 + m)) = false := h
              rw [h']; exact Bool.false_ne_true
            refine ⟨sm3, bs, hD, ?_⟩
            rw [take_one hn, List.filter_append, List.filter_cons_of_neg (p := fun n => !row.contains n) hc, List.filter_nil, List.append_nil]
            exact hB
        · rintro H3 ⟨sm3, bs, hD, hB⟩
          have hB' : Tups H3 bs (growN k row) := by
            have e : (upN k).take (k - 1) = upN k := List.take_of_length_le (by simp [upN])
            rw [e] at hB
            exact hB
          have hlen := growN_len hk5 row
          refine ⟨lo, D, _, _, rfl, rfl, sm3 _ _ hlo, hD, ?_, ?_⟩
          · refine Nat.le_of_lt (small ?_)
            rw [List.length_map, List.length_map, hB'.1, hL.1]
            have h1 := flat_len (growN k) 4 ((kindsM k i).take j) (growN_len hk5)
            have h2 := kindsM_len hk5 i
            have h3 : 4 ^ i ≤ 4 ^ 4 := Nat.pow_le_pow_right (by decide) (by omega)
            rw [List.length_take] at h1
            omega
          · refine ⟨ls ++ bs, _, rfl, ?_, ?_, ?_⟩
            · intro b o hb
              rw [upd_ne (ne_of_none hb nlo)]
              exact sm3 _ _ (sm2 _ _ hb)
            · rw [upd_same, List.map_append]
            · rw [take_one hj2, List.flatMap_append, show [row].flatMap (growN k) = growN k row by simp]
              exact (Tups.app (hL.same sm3) hB').keep (keep_put (sm3 _ _ hlo) (by intro zs z; cases z))
      · rintro σ H2 ⟨ls, y4, rfl, sm2, hlo, hL⟩
        refine ⟨_, rfl, lo, ls, _, _, _, rfl, sm.trans sm2, none_of sm nlo, hlo, ?_⟩
        rw [List.length_map, hT.1, List.take_length] at hL
        exact hL
    · rintro σ H' ⟨ra, ts, y2, y3, y4, rfl, sm, nra, hra, hT⟩
      rw [kinds_all k hk1 hk5] at hT
      exact ⟨_, rfl, q H' ra ts sm nra hra hT⟩
end
end Rt

set_option Elab.async false
namespace Rt
open Su183
/-! ### each type brings itself; what is brought of k steps has k numbers -/
theorem mem_types {t : List Nat} (h : IsT t) (h2 : 2 ≤ t.length) (k : Nat) (u : List Nat) : u ∈ Su184.types t k ↔ prog (Su184.lineOf t) k u := by
  unfold Su184.types
  rw [if_neg (by omega)]
  unfold Su184.typesIn
  obtain ⟨_, b⟩ := fold_insert (((Su184.lineOf t).found k).map fun x => (Su184.lineOf t).type (Su183.leastOf ((Su184.lineOf t).way x k)) k) [] List.Pairwise.nil
  rw [b, prog_iff _ (cyc_line h h2), List.mem_map]
  simp
theorem one_step {t : List Nat} (h : IsT t) (h1 : t.length = 1) : t = [0] := by
  match t, h1 with
  | [x], _ =>
    have := h.zero
    simp at this
    rw [this]
theorem types_len {t : List Nat} (h : IsT t) {k : Nat} {u : List Nat} (hu : u ∈ Su184.types t k) : u.length = k := by
  by_cases h1 : t.length = 1
  · rw [one_step h h1] at hu
    unfold Su184.types at hu
    rw [if_pos (show ([0] : List Nat).length = 1 from rfl)] at hu
    by_cases hk : k = 1
    · rw [if_pos hk] at hu
      rw [List.mem_singleton.1 hu, hk]; rfl
    · rw [if_neg hk] at hu
      simp at hu
  · obtain ⟨w, e1, _, _, _, _, e2⟩ := (mem_types h (by have := h.pos; omega) k u).1 hu
    rw [← e2, kindI_len, ← e1]
    exact places_length _ _ _ _
theorem rank_range (n y : Nat) (hy : y ≤ n) : ((List.range n).filter fun i => decide (i < y)).length = y := by
  induction n with
  | zero => simp; omega
  | succ n ih =>
    rw [List.range_succ, List.filter_append, List.length_append]
    by_cases h : y ≤ n
    · rw [ih h, List.filter_cons_of_neg (by simpa using h)]; rfl
    · have e : y = n + 1 := by omega
      subst e
      rw [List.filter_cons_of_pos (by simp), List.filter_eq_self.2 (fun a ha => by have := List.mem_range.1 ha; simp; omega)]
      simp
theorem kindI_self {t : List Nat} (h : IsT t) : kindI (nz t) = t := by
  have hr : ranks (nz t) = t := by
    unfold ranks nz
    rw [List.map_map]
    have : ∀ y ∈ t, (rank (nz t) ∘ fun (n : Nat) => (n : Int)) y = id y := by
      intro y hy
      show ((nz t).filter fun z => decide (z < (y : Int))).length = y
      unfold nz
      rw [List.filter_map, List.length_map]
      have e : ((fun z : Int => decide (z < (y : Int))) ∘ fun (n : Nat) => (n : Int)) = fun n => decide (n < y) := by
        funext n
        show decide ((n : Int) < (y : Int)) = decide (n < y)
        rw [Bool.eq_iff_iff, decide_eq_true_eq, decide_eq_true_eq]
        omega
      rw [e, ((isT_range h).filter _).length_eq]
      exact rank_range _ _ (Nat.le_of_lt (h.lt y hy))
    rw [List.map_congr_left this, List.map_id]
  unfold kindI fromZero
  rw [hr]
  have h0 : t.idxOf 0 = 0 := by
    have hz := h.zero
    cases t with
    | nil => rfl
    | cons a l =>
      have ha : a = 0 := hz
      rw [ha]; simp
  rw [h0]; simp
theorem types_self {t : List Nat} (h : IsT t) : t ∈ Su184.types t t.length := by
  by_cases h1 : t.length = 1
  · have e := one_step h h1
    subst e
    unfold Su184.types
    rw [if_pos (show ([0] : List Nat).length = 1 from rfl), if_pos (show ([0] : List Nat).length = 1 from rfl)]
    simp
  · have h2 : 2 ≤ t.length := by have := h.pos; omega
    rw [mem_types h h2]
    have hs := prog_self (Su184.lineOf t) (cyc_line h h2)
    have hn : (Su184.lineOf t).n + 1 = t.length := by rw [line_n]; omega
    rw [hn] at hs
    have ho : orb (Su184.lineOf t) 1 0 t.length = nz t := by
      rw [orb_eq]
      apply List.ext_getElem?
      intro i
      unfold nz
      rw [List.getElem?_map, List.getElem?_map]
      by_cases hi : i < t.length
      · rw [List.getElem?_range hi, List.getElem?_eq_getElem hi]
        show some (aft (Su184.lineOf t) 1 0 i) = some ((t[i] : Nat) : Int)
        rw [aft_line h h2 i (by omega), List.getD_eq_getElem?_getD, List.getElem?_eq_getElem hi]; rfl
      · rw [List.getElem?_eq_none (by simpa using hi), List.getElem?_eq_none (by simpa using hi)]; rfl
    rw [ho, kindI_self h] at hs
    exact hs
/-- alone: one type of as many steps is brought just where that is the type itself -/
theorem alone_iff {t : List Nat} (h : IsT t) : (Su184.types t t.length == [t]) = ((Su184.types t t.length).length == 1) := by
  have hs := types_self h
  generalize Su184.types t t.length = L at *
  match L, hs with
  | [x], hs =>
    rw [List.mem_singleton.1 hs]; simp
  | x :: y :: l, _ => simp
end Rt

set_option Elab.async false
set_option maxRecDepth 100000
set_option maxHeartbeats 4000000
namespace Rt
open PySem PySem.Spec PyProof.Rows L2
open RtN (NKvs NAt NDict PairAt nval)
abbrev sHolder : Stmt := topS 35
abbrev sInit : Stmt := inClass sHolder 0
abbrev sTake : Stmt := inClass sHolder 1
abbrev sLine : Stmt := inClass sHolder 2
abbrev sShow : Stmt := inClass sHolder 3
abbrev sTurn : Stmt := inClass sHolder 4
abbrev sDouble : Stmt := inClass sHolder 5
abbrev sBrings : Stmt := inClass sHolder 6
abbrev sTypes : Stmt := inClass sHolder 7
abbrev sNth : Stmt := inClass sHolder 8
abbrev sSteps : Stmt := inClass sHolder 9
abbrev sAlone : Stmt := inClass sHolder 10
abbrev sBy : Stmt := inClass sHolder 11
abbrev sFirst : Stmt := inClass sHolder 12
abbrev sBrought : Stmt := inClass sHolder 13
theorem scIn : FnScope ["self"] ["self"] (defScope sInit) := ⟨rfl, rfl, rfl, by decide +kernel, rfl, by decide +kernel, by decide +kernel⟩
theorem scBr : FnScope ["self", "kind", "steps", "key"] ["self", "kind", "steps"] (defScope sBrought) := ⟨rfl, rfl, rfl, by decide +kernel, rfl, by decide +kernel, by decide +kernel⟩
/-! ### the object -/
abbrev hF (kl kd : Addr) : List (Str × V) := [("kind", .ref kl), ("known", .ref kd)]
theorem lk1 {k : Str} {v : V} {r : List (Str × V)} : List.lookup k ((k, v) :: r) = some v := by
  simp only [List.lookup, beq_self_eq_true]
theorem lk2 {k g : Str} {v : V} {r : List (Str × V)} (h : (k == g) = false) : List.lookup k ((g, v) :: r) = List.lookup k r := by
  simp only [List.lookup, h]
theorem hF_kind (kl kd : Addr) : (hF kl kd).lookup ("kind" : Str) = some (.ref kl) := lk1
theorem hF_known (kl kd : Addr) : (hF kl kd).lookup ("known" : Str) = some (.ref kd) := (lk2 (by decide +kernel)).trans lk1
theorem hF_no (kl kd : Addr) {m : Str} (h1 : (m == ("kind" : Str)) = false) (h2 : (m == ("known" : Str)) = false) : (hF kl kd).lookup m = none := (lk2 h1).trans ((lk2 h2).trans rfl)
theorem hF_put (kl kd k : Addr) : putF "kind" (.ref k) (hF kl kd) = hF k kd := if_pos rfl
theorem hF_new (kl kd : Addr) : putF "known" (.ref kd) (putF "kind" (.ref kl) []) = hF kl kd := (if_neg (by decide +kernel)).trans rfl
/-- what was found before: the types that a type brings -/
def Known (H : Hp) (T : Addr → Prop) (kvs : NKvs) : Prop := ∀ e ∈ kvs, ∃ (t : List Nat) (j : Nat) (p : Addr) (ts : List Addr), e.1 = (keyOf t, (j : Int)) ∧ e.2.2 = .ref p ∧ ¬ T p ∧ H p = some (.lst (ts.map V.ref)) ∧ Tups H ts (Su184.types t j)
/-- the holder at x, its type t (none: nothing was taken); T: what is none of its own -/
structure Hold (P : Program) (w : World) (C : Addr) (H : Hp) (x kd : Addr) (T : Addr → Prop) (t : List Nat) (n : Nat) : Prop where
  ins : ∃ dx kl, H x = some (.ins C dx (hF kl kd)) ∧ H kl = some (.lst (ivs (nz t))) ∧ ¬ T kl
  kn : ∃ kvs, NAt P w H kd kvs ∧ Known H T kvs ∧ kvs.length ≤ n
/-- all but the holder and what it knows stands -/
def KeepH (x kd : Addr) (H H' : Hp) : Prop := ∀ b o, b ≠ x → b ≠ kd → H b = some o → H' b = some o
theorem KeepH.refl (x kd : Addr) (H : Hp) : KeepH x kd H H := fun _ _ _ _ e => e
theorem KeepH.of {x kd : Addr} {H H' : Hp} (s : Same H H') : KeepH x kd H H' := fun _ _ _ _ e => s _ _ e
theorem KeepH.trans {x kd : Addr} {H H1 H2 : Hp} (a : KeepH x kd H H1) (b : KeepH x kd H1 H2) : KeepH x kd H H2 := fun c o h1 h2 e => b c o h1 h2 (a c o h1 h2 e)
theorem Known.same {H H' : Hp} {T : Addr → Prop} {kvs : NKvs} (k : Known H T kvs) (s : Same H H') : Known H' T kvs := fun e he => by
  obtain ⟨t, j, p, ts, e1, e2, e3, e4, e5⟩ := k e he
  exact ⟨t, j, p, ts, e1, e2, e3, s _ _ e4, e5.same s⟩
theorem Hold.same {P : Program} {w : World} {C x kd : Addr} {T : Addr → Prop} {t : List Nat} {n : Nat} {H H' : Hp} (h : Hold P w C H x kd T t n) (s : Same H H') : Hold P w C H' x kd T t n := by
  obtain ⟨⟨dx, kl, e1, e2, e3⟩, kvs, a, b, c⟩ := h
  exact ⟨⟨dx, kl, s _ _ e1, s _ _ e2, e3⟩, kvs, a.same s, b.same s, c⟩
theorem Hold.more {P : Program} {w : World} {C x kd : Addr} {T : Addr → Prop} {t : List Nat} {n m : Nat} {H : Hp} (h : Hold P w C H x kd T t n) (l : n ≤ m) : Hold P w C H x kd T t m := by
  obtain ⟨i, kvs, a, b, c⟩ := h
  exact ⟨i, kvs, a, b, Nat.le_trans c l⟩
/-- what stands of it -/
def Live (H : Hp) (T : Addr → Prop) : Prop := ∀ b, T b → ∃ o, H b = some o
theorem Live.same {H H' : Hp} {T : Addr → Prop} (l : Live H T) (s : Same H H') : Live H' T := fun b hb => let ⟨o, e⟩ := l b hb; ⟨o, s _ _ e⟩
theorem Live.not {H : Hp} {T : Addr → Prop} (l : Live H T) {p : Addr} (e : H p = none) : ¬ T p := fun hp => by
  obtain ⟨o, q⟩ := l p hp
  rw [e] at q
  cases q
/-- a list that is none of its own is changed -/
theorem Hold.put {P : Program} {w : World} {C x kd a : Addr} {T : Addr → Prop} {t : List Nat} {n : Nat} {H : Hp} {xs ys : List V} (h : Hold P w C H x kd T t n) (ha : T a) (e : H a = some (.lst xs)) : Hold P w C (upd H a (.lst ys)) x kd T t n := by
  obtain ⟨⟨dx, kl, e1, e2, e3⟩, kvs, na, kn, c⟩ := h
  have nx : x ≠ a := ne_of e1 e (by intro z; cases z)
  have nt : ∀ b zs, H b = some (.tup zs) → b ≠ a := fun b zs q => ne_of q e (by intro z; cases z)
  have nkd : kd ≠ a := ne_of na.obj e (by intro z; cases z)
  have ns : ∀ b, ¬ T b → b ≠ a := fun b hb z => hb (by rw [z]; exact ha)
  refine ⟨⟨dx, kl, by rw [upd_ne nx]; exact e1, by rw [upd_ne (ns _ e3)]; exact e2, e3⟩, kvs, ⟨by rw [upd_ne nkd]; exact na.obj, fun p m => (na.keys p m).put fun zs q => by rw [e] at q; cases q⟩, fun q hq => ?_, c⟩
  obtain ⟨t', j, p, ts, g1, g2, g3, g4, g5⟩ := kn q hq
  refine ⟨t', j, p, ts, g1, g2, g3, by rw [upd_ne (ns _ g3)]; exact g4, g5.1, fun i a' l h1 h2 => ?_⟩
  have g := g5.2 i a' l h1 h2
  rw [upd_ne (nt _ _ g)]; exact g
/-- less, or something new, may be none of its own -/
theorem Hold.less {P : Program} {w : World} {C x kd : Addr} {T T' : Addr → Prop} {t : List Nat} {n : Nat} {H : Hp} (h : Hold P w C H x kd T t n) (l : ∀ b, T' b → T b ∨ H b = none) : Hold P w C H x kd T' t n := by
  obtain ⟨⟨dx, kl, e1, e2, e3⟩, kvs, na, kn, c⟩ := h
  have go : ∀ b o, ¬ T b → H b = some o → ¬ T' b := fun b o h1 h2 h3 => by
    rcases l b h3 with z | z
    · exact h1 z
    · rw [h2] at z; cases z
  refine ⟨⟨dx, kl, e1, e2, go _ _ e3 e2⟩, kvs, na, fun q hq => ?_, c⟩
  obtain ⟨t', j, p, ts, g1, g2, g3, g4, g5⟩ := kn q hq
  exact ⟨t', j, p, ts, g1, g2, go _ _ g3 g4, g4, g5⟩
/-- what is no object of its own and no dict of its own -/
theorem Hold.apart {P : Program} {w : World} {C x kd : Addr} {T : Addr → Prop} {t : List Nat} {n : Nat} {H : Hp} (h : Hold P w C H x kd T t n) {b : Addr} {o : HO} (e : H b = some o) (l : (∃ xs, o = .lst xs) ∨ ∃ xs, o = .tup xs) : b ≠ x ∧ b ≠ kd := by
  obtain ⟨⟨dx, kl, e1, _⟩, kvs, na, _⟩ := h
  rcases l with ⟨xs, rfl⟩ | ⟨xs, rfl⟩
  · exact ⟨ne_of e e1 (by intro z; cases z), ne_of e na.obj (by intro z; cases z)⟩
  · exact ⟨ne_of e e1 (by intro z; cases z), ne_of e na.obj (by intro z; cases z)⟩
theorem nval_mem {kvs : NKvs} {k : RtN.NKey} {v : V} (h : nval kvs k = some v) : ∃ e ∈ kvs, e.1 = k ∧ e.2.2 = v := by
  unfold RtN.nval at h
  cases q : kvs.find? fun x => decide (x.1 = k) with
  | none => rw [q] at h; cases h
  | some e =>
    rw [q] at h
    have h1 := List.find?_some q
    exact ⟨e, List.mem_of_find?_eq_some q, of_decide_eq_true h1, Option.some.inj h⟩
theorem nval_new {kvs : NKvs} {k : RtN.NKey} {b : Addr} {v : V} (h : nval kvs k = none) : nval (kvs ++ [(k, b, v)]) k = some v := by
  unfold RtN.nval at h ⊢
  rw [List.find?_append]
  cases q : kvs.find? fun x => decide (x.1 = k) with
  | some e => rw [q] at h; cases h
  | none => simp
section
variable {P : Program} {w : World} {K : PySem.W.Frag} {mg : Str → Option Value} {base : Heap} {C : Addr}
/-- what the top has written of the class -/
structure Txt (K : PySem.W.Frag) (mg : Str → Option Value) (C : Addr) : Prop where
  cl : Cls K C
  nK : NoAttr K C "kind"
  nN : NoAttr K C "known"
def spInit (P : Program) (w : World) (C : Addr) : Sp := fun vs H Q _ => ∃ (x dx : Addr) (T : Addr → Prop), vs = [.ref x] ∧ H x = some (.ins C dx []) ∧ Live H T ∧
  ∀ (H' : Hp) (kd : Addr), Hold P w C H' x kd T [] 0 → (∀ b o, b ≠ x → H b = some o → H' b = some o) → Q .non H'
theorem ok_init {f : Addr} {fd : FuncData} (F : Fun K "__init__" "Holder.__init__" sInit f fd) (T : Txt K mg C) : FnOk P w K mg base CX0 1 f fd ["self"] (spInit P w C) := by
  refine F.ok scIn (fun vs H Q E h => ?_) (fun cdv A outer s H vs Q E hr h => ?_)
  · obtain ⟨x, dx, T', rfl, _⟩ := h
    rfl
  · obtain ⟨x, dx, T', rfl, hx, hT, q⟩ := h
    refine ⟨_, pss_cons (ps_fld (pv 0) (pe_lst pa_nil) rfl) (pss_one (ps_fld (pv 0) RtN.pe_nnew rfl)), ?_⟩
    refine ⟨Nat.zero_le _, fun kl nkl => ?_⟩
    have xkl : x ≠ kl := ne_of_none hx nkl
    refine ⟨_, rfl, x, C, dx, [], rfl, by rw [upd_ne xkl]; exact hx, T.cl, T.nK, by show 0 < 1000; decide, ?_⟩
    intro kd nkd
    have xkd : x ≠ kd := by
      intro e
      rw [e, upd_same] at nkd
      cases nkd
    have klkd : kl ≠ kd := by
      intro e
      rw [← e, upd_ne xkl.symm, upd_same] at nkd
      cases nkd
    refine ⟨_, rfl, x, C, dx, _, rfl, by rw [upd_ne xkd, upd_same], T.cl, T.nN, by show 1 < 1000; decide, ?_⟩
    refine q _ kd ⟨⟨dx, kl, ?_, ?_, ?_⟩, [], ⟨?_, by simp⟩, fun e he => by simp at he, Nat.zero_le _⟩ ?_
    · rw [upd_same, hF_new]
    · rw [upd_ne xkl.symm, upd_ne klkd, upd_ne xkl.symm, upd_same]; rfl
    · exact hT.not nkl
    · rw [upd_ne xkd.symm, upd_same]; rfl
    · intro b o hb e
      have nb : b ≠ kl := ne_of_none e nkl
      have nb2 : b ≠ kd := by
        intro z
        rw [← z, upd_ne hb, upd_ne nb, e] at nkd
        cases nkd
      rw [upd_ne hb, upd_ne nb2, upd_ne hb, upd_ne nb]
      exact e
def spBrought (P : Program) (w : World) (K : PySem.W.Frag) (C : Addr) : Sp := fun vs H Q _ => ∃ (x kd a : Addr) (T : Addr → Prop) (t0 t : List Nat) (n j : Nat), vs = [.ref x, .ref a, .int j] ∧ Hold P w C H x kd T t0 n ∧ Live H T ∧ n ≤ 100000 ∧ EitherAt K H a (nz t) ∧ IsT t ∧ t.length ≤ 7 ∧ 1 ≤ j ∧ j ≤ 6 ∧
  ∀ (H' : Hp) (p : Addr) (ts : List Addr), Hold P w C H' x kd T t0 (n + 1) → KeepH x kd H H' → H' p = some (.lst (ts.map V.ref)) → Tups H' ts (Su184.types t j) → Q (.ref p) H'
theorem ok_brought {f f1 : Addr} {fd d1 : FuncData} (F : Fun K "brought" "Holder.brought" sBrought f fd) (T : Txt K mg C) (G1 : FnOk P w K mg base CX0 3 f1 d1 ["kind", "steps"] (spKinds K)) (D1 : Def1 K mg "kinds_brought" f1 d1 ["kind", "steps"]) (mt : mg "tuple" = none) : FnOk P w K mg base CX0 4 f fd ["self", "kind", "steps"] (spBrought P w K C) := by
  refine F.ok scBr (fun vs H Q E h => ?_) (fun cdv A outer s H vs Q E hr h => ?_)
  · obtain ⟨x, kd, a, T', t0, t, n, j, rfl, _⟩ := h
    rfl
  · obtain ⟨x, kd, a, T', t0, t, n, j, rfl, hH, hT, hn, hA, ht, ht7, hj1, hj6, q⟩ := h
    have hu : _ + 2 < cLine := Nat.lt_of_le_of_lt (Nat.add_le_add_left (by decide) _) hr.units
    refine ⟨_, pss_cons (ps_set (i := 3) scBr.nd rfl (Or.inl rfl) (pe_tup (pa_cons (pe_tupleOf (by rfl) mt (pv 1)) (pa_cons (pv 2) pa_nil))))
      (pss_cons (ps_if (pt_cmp (RtN.pc_nnotin hu (pv 3) (pe_fld (pv 0) rfl)))
        (pss_one (RtN.ps_nput hu (pe_fld (pv 0) rfl) (pv 3) (pe_call G1 hr (by rfl) D1.gl D1.kp D1.bi .nil pass0 (pa_cons (pv 1) (pa_cons (pv 2) pa_nil))) rfl)) pss_nil)
      (pss_one (ps_ret (RtN.pe_nget hu (pe_fld (pv 0) rfl) (pv 3) (fun _ _ => rfl))))), ?_⟩
    refine ⟨_, rfl, kTup_of hA fun H1 tt s1 htt => ?_⟩
    refine ⟨_, rfl, by show 2 ≤ sizeLine; decide, fun kt nkt => ?_⟩
    have s2 : Same H1 (upd H1 kt (.tup [.ref tt, .int j])) := same_new nkt
    have hk : PairAt (upd H1 kt (.tup [.ref tt, .int j])) kt (keyOf t, (j : Int)) := ⟨tt, upd_same, by rw [keyOf_kV]; exact s2 _ _ htt⟩
    have s12 := s1.trans s2
    generalize upd H1 kt (.tup [.ref tt, .int j]) = H2 at *
    obtain ⟨⟨dx, kl, e1, e2, e3⟩, kvs, na, kn, hl⟩ := hH
    have f1' := s12 _ _ e1
    refine ⟨_, rfl, _, rfl, x, C, dx, _, _, rfl, f1', T.cl, T.nN, hF_known kl kd, kd, kvs, kt, (keyOf t, (j : Int)), rfl, na.same s12, rfl, hk, _, rfl, ?_⟩
    cases hv : nval kvs (keyOf t, (j : Int)) with
    | some v =>
      refine ifF ?_
      obtain ⟨e, he, g1, g2⟩ := nval_mem hv
      obtain ⟨t', j', p, ts, k1, k2, k3, k4, k5⟩ := (kn.same s12) e he
      rw [g1] at k1
      have ht' : t = t' := keyOf_inj (congrArg Prod.fst k1)
      have hj' : (j : Int) = (j' : Int) := congrArg Prod.snd k1
      have hj' : j = j' := by omega
      subst ht' hj'
      refine ⟨_, rfl, x, C, dx, _, _, rfl, f1', T.cl, T.nN, hF_known kl kd, _, rfl, kd, kvs, kt, _, v, rfl, na.same s12, rfl, hk, hv, ?_⟩
      rw [← g2, k2]
      exact q H2 p ts ⟨⟨dx, kl, f1', s12 _ _ e2, e3⟩, kvs, na.same s12, kn.same s12, Nat.le_succ_of_le hl⟩ (KeepH.of s12) k4 k5
    | none =>
      refine ifT ?_
      refine ⟨_, rfl, _, rfl, a, t, j, rfl, hA.same s12, ht, ht7, hj1, hj6, fun H3 p ts s3 np hp hts => ?_⟩
      have s13 := s12.trans s3
      have na3 := na.same s13
      have kdp : p ≠ kd := ne_of hp na3.obj (by intro z; cases z)
      have xkd : x ≠ kd := ne_of (s13 _ _ e1) na3.obj (by intro z; cases z)
      have klkd : kl ≠ kd := ne_of (s13 _ _ e2) na3.obj (by intro z; cases z)
      refine ⟨_, rfl, x, C, dx, _, _, rfl, s13 _ _ e1, T.cl, T.nN, hF_known kl kd, _, rfl, kd, kvs, kt, (keyOf t, (j : Int)), rfl, na3, rfl, hk.same s3, hv, small (by omega), ?_⟩
      have ntup : ∀ zs, H3 kd ≠ some (.tup zs) := fun zs z => by rw [na3.obj] at z; cases z
      have na4 : NAt P w (upd H3 kd (NDict P w kd (kvs ++ [((keyOf t, (j : Int)), kt, .ref p)]))) kd (kvs ++ [((keyOf t, (j : Int)), kt, .ref p)]) := by
        refine ⟨upd_same, fun e he => ?_⟩
        rcases List.mem_append.1 he with he | he
        · exact (na3.keys e he).put ntup
        · rw [List.mem_singleton.1 he]
          exact (hk.same s3).put ntup
      have hts4 : ∀ (ts : List Addr) (L : List (List Nat)), Tups H3 ts L → Tups (upd H3 kd (NDict P w kd (kvs ++ [((keyOf t, (j : Int)), kt, .ref p)]))) ts L := fun ts L hh => ⟨hh.1, fun i b l h1 h2 => by
        have g := hh.2 i b l h1 h2
        rw [upd_ne (fun z => ntup _ (by rw [← z]; exact g))]; exact g⟩
      refine ⟨_, rfl, x, C, dx, _, _, rfl, by rw [upd_ne xkd]; exact s13 _ _ e1, T.cl, T.nN, hF_known kl kd, _, rfl, kd, _, kt, (keyOf t, (j : Int)), .ref p, rfl, na4, rfl, (hk.same s3).put ntup, nval_new hv, ?_⟩
      refine q _ p ts ⟨⟨dx, kl, by rw [upd_ne xkd]; exact s13 _ _ e1, by rw [upd_ne klkd]; exact s13 _ _ e2, e3⟩, _, na4, ?_, by rw [List.length_append, List.length_singleton]; omega⟩ ?_ (by rw [upd_ne kdp]; exact hp) (hts4 _ _ hts)
      · intro e he
        rcases List.mem_append.1 he with he | he
        · obtain ⟨t', j', p', ts', k1, k2, k3, k4, k5⟩ := (kn.same s13) e he
          exact ⟨t', j', p', ts', k1, k2, k3, by rw [upd_ne (ne_of k4 na3.obj (by intro z; cases z))]; exact k4, hts4 _ _ k5⟩
        · rw [List.mem_singleton.1 he]
          exact ⟨t, j, p, ts, rfl, rfl, (hT.same s12).not np, by rw [upd_ne kdp]; exact hp, hts4 _ _ hts⟩
      · intro b o _ hb e
        rw [upd_ne hb]; exact s13 _ _ e
end
end Rt

set_option Elab.async false
set_option maxRecDepth 100000
set_option maxHeartbeats 4000000
namespace Rt
open PySem PySem.Spec PyProof.Rows L2
theorem scTk : FnScope ["self", "row"] ["self", "row"] (defScope sTake) := ⟨rfl, rfl, rfl, by decide +kernel, rfl, by decide +kernel, by decide +kernel⟩
theorem scLn : FnScope ["self"] ["self"] (defScope sLine) := ⟨rfl, rfl, rfl, by decide +kernel, rfl, by decide +kernel, by decide +kernel⟩
theorem scSw : FnScope ["self"] ["self"] (defScope sShow) := ⟨rfl, rfl, rfl, by decide +kernel, rfl, by decide +kernel, by decide +kernel⟩
theorem scTn : FnScope ["self"] ["self"] (defScope sTurn) := ⟨rfl, rfl, rfl, by decide +kernel, rfl, by decide +kernel, by decide +kernel⟩
theorem scDo : FnScope ["self"] ["self"] (defScope sDouble) := ⟨rfl, rfl, rfl, by decide +kernel, rfl, by decide +kernel, by decide +kernel⟩
theorem scBs : FnScope ["self", "row"] ["self", "row"] (defScope sBrings) := ⟨rfl, rfl, rfl, by decide +kernel, rfl, by decide +kernel, by decide +kernel⟩
theorem scTy : FnScope ["self", "steps"] ["self", "steps"] (defScope sTypes) := ⟨rfl, rfl, rfl, by decide +kernel, rfl, by decide +kernel, by decide +kernel⟩
section
variable {P : Program} {w : World} {K : PySem.W.Frag} {mg : Str → Option Value} {base : Heap} {C : Addr}
/-- a method, told by what it does with the type and answers: more: what else is handed in; grow: how much more is known then -/
def spM (P : Program) (w : World) (C : Addr) (grow : Nat) (args : Hp → (Addr → Prop) → List V → (List Nat × List Int) → List Nat → Prop) : Sp := fun vs H Q _ => ∃ (x kd : Addr) (T : Addr → Prop) (t : List Nat) (n : Nat) (more : List V) (r : List Nat × List Int), vs = .ref x :: more ∧ Hold P w C H x kd T t n ∧ Live H T ∧ n ≤ 90000 ∧ args H T more r t ∧
  ∀ (H' : Hp) (p : Addr), Hold P w C H' x kd T r.1 (n + grow) → KeepH x kd H H' → H p = none → H' p = some (.lst (ivs r.2)) → Q (.ref p) H'
/-- a type is held -/
abbrev OkT (t : List Nat) : Prop := IsT t ∧ t.length ≤ 7
def aLine : Hp → (Addr → Prop) → List V → (List Nat × List Int) → List Nat → Prop := fun _ _ vs r t => vs = [] ∧ OkT t ∧ r = (t, (t.length : Int) :: nz (Su184.putOf t))
theorem nz_ok {t : List Nat} (h : OkT t) : okLine (nz t) := by
  refine ⟨by rw [List.length_map]; have := h.2; omega, fun x hx => ?_⟩
  obtain ⟨n, hn, rfl⟩ := List.mem_map.1 hx
  have := h.1.lt n hn
  rw [List.length_map]; omega
theorem ok_mline {f f1 : Addr} {fd d1 : FuncData} (F : Fun K "line" "Holder.line" sLine f fd) (T : Txt K mg C) (G1 : FnOk P w K mg base CX0 1 f1 d1 ["kind"] (spNewE K okLine mLine)) (D1 : Def1 K mg "line_of" f1 d1 ["kind"]) (ml : mg "len" = none) : FnOk P w K mg base CX0 2 f fd ["self"] (spM P w C 1 aLine) := by
  refine F.ok scLn (fun vs H Q E h => ?_) (fun cdv A outer s H vs Q E hr h => ?_)
  · obtain ⟨x, kd, T', t, n, more, r, rfl, _, _, _, ⟨rfl, _⟩, _⟩ := h
    rfl
  · obtain ⟨x, kd, T', t, n, more, r, rfl, hH, hT, hn, ⟨rfl, ht, rfl⟩, q⟩ := h
    refine ⟨_, pss_one (ps_ret (pe_op op_cat (pe_lst (pa_cons (pe_callB call_len_seq (by rfl) ml PySem.boot_len (pa_cons (pe_fld (pv 0) rfl) pa_nil)) pa_nil)) (pe_call G1 hr (by rfl) D1.gl D1.kp D1.bi .nil pass0 (pa_cons (pe_fld (pv 0) rfl) pa_nil)))), ?_⟩
    obtain ⟨dx, kl, e1, e2, e3⟩ := hH.ins
    refine ⟨_, rfl, x, C, dx, _, _, rfl, e1, T.cl, T.nK, hF_kind kl kd, kl, _, rfl, .inl (SqL.of e2), by show 1 ≤ sizeLine; decide, fun p1 n1 => ?_⟩
    have s1 : Same H (upd H p1 (.lst [.int ((ivs (nz t)).length : Nat)])) := same_new n1
    refine ⟨_, rfl, x, C, dx, _, _, rfl, s1 _ _ e1, T.cl, T.nK, hF_kind kl kd, kl, nz t, rfl, .inl (SqL.of (s1 _ _ e2)), nz_ok ht, fun H2 p2 s2 n2 hp2 => ?_⟩
    rw [mLine_eq ht.1] at hp2
    refine ⟨p1, p2, _, _, rfl, rfl, s2 _ _ upd_same, hp2, ?_, fun p np => ?_⟩
    · refine Nat.le_of_lt (small ?_)
      have := ht.2
      simp [putOf_len]; omega
    · have sall := s1.trans s2
      refine q _ p ((hH.same (sall.trans (same_new np))).more (by omega)) (KeepH.of (sall.trans (same_new np))) (none_of sall np) ?_
      rw [upd_same]
      simp
theorem Hold.fresh {P : Program} {w : World} {C x kd : Addr} {T : Addr → Prop} {t : List Nat} {n : Nat} {H H1 : Hp} {p : Addr} (h : Hold P w C H1 x kd T t n) (k : KeepH x kd H H1) (np : H1 p = none) : H p = none := by
  cases e : H p with
  | none => rfl
  | some o =>
    exfalso
    by_cases hx : p = x
    · obtain ⟨dx', kl', f1, _⟩ := h.ins
      rw [hx, f1] at np; cases np
    · by_cases hk : p = kd
      · obtain ⟨kvs, na, _⟩ := h.kn
        rw [hk, na.obj] at np; cases np
      · rw [k _ _ hx hk e] at np; cases np
theorem Live.keep {P : Program} {w : World} {C x kd : Addr} {T U : Addr → Prop} {t : List Nat} {n : Nat} {H H1 : Hp} (l : Live H T) (k : KeepH x kd H H1) (h : Hold P w C H1 x kd U t n) : Live H1 T := fun b hb => by
  cases e : H1 b with
  | some o => exact ⟨o, rfl⟩
  | none => exact absurd hb (l.not (h.fresh k e))
def aShow : Hp → (Addr → Prop) → List V → (List Nat × List Int) → List Nat → Prop := fun _ _ vs r t => vs = [] ∧ t.length ≤ 1000 ∧ r = (t, (t.length : Int) :: nz t)
theorem ok_mshow {f : Addr} {fd : FuncData} (F : Fun K "show" "Holder.show" sShow f fd) (T : Txt K mg C) (ml : mg "len" = none) : FnOk P w K mg base CX0 1 f fd ["self"] (spM P w C 0 aShow) := by
  refine F.ok scSw (fun vs H Q E h => ?_) (fun cdv A outer s H vs Q E hr h => ?_)
  · obtain ⟨x, kd, T', t, n, more, r, rfl, _, _, _, ⟨rfl, _⟩, _⟩ := h
    rfl
  · obtain ⟨x, kd, T', t, n, more, r, rfl, hH, hT, hn, ⟨rfl, ht, rfl⟩, q⟩ := h
    refine ⟨_, pss_one (ps_ret (pe_op op_cat (pe_lst (pa_cons (pe_callB call_len_seq (by rfl) ml PySem.boot_len (pa_cons (pe_fld (pv 0) rfl) pa_nil)) pa_nil)) (pe_fld (pv 0) rfl))), ?_⟩
    obtain ⟨dx, kl, e1, e2, e3⟩ := hH.ins
    refine ⟨_, rfl, x, C, dx, _, _, rfl, e1, T.cl, T.nK, hF_kind kl kd, kl, _, rfl, .inl (SqL.of e2), by show 1 ≤ sizeLine; decide, fun p1 n1 => ?_⟩
    have s3 : Same H (upd H p1 (.lst [.int ((ivs (nz t)).length : Nat)])) := same_new n1
    refine ⟨_, rfl, x, C, dx, _, _, rfl, s3 _ _ e1, T.cl, T.nK, hF_kind kl kd, p1, kl, _, _, rfl, rfl, upd_same, s3 _ _ e2, ?_, fun p np => ?_⟩
    · refine Nat.le_of_lt (small ?_)
      simp; omega
    · refine q _ p (hH.same (s3.trans (same_new np))) (KeepH.of (s3.trans (same_new np))) (none_of s3 np) ?_
      rw [upd_same]
      simp
def aTurn : Hp → (Addr → Prop) → List V → (List Nat × List Int) → List Nat → Prop := fun _ _ vs r t => vs = [] ∧ OkT t ∧ r = (Su184.turned t, ((Su184.turned t).length : Int) :: nz (Su184.turned t))
/-- the type is another from then on -/
theorem Hold.set {P : Program} {w : World} {C x kd : Addr} {T : Addr → Prop} {t u : List Nat} {n : Nat} {H : Hp} {dx kl k : Addr} (h : Hold P w C H x kd T t n) (e : H x = some (.ins C dx (hF kl kd))) (ek : H k = some (.lst (ivs (nz u)))) (nk : ¬ T k) : Hold P w C (upd H x (.ins C dx (hF k kd))) x kd T u n := by
  obtain ⟨⟨dx', kl', e1, e2, e3⟩, kvs, a, b, c⟩ := h
  have kx : k ≠ x := ne_of ek e (by intro z; cases z)
  have nt : ∀ b zs, H b = some (.tup zs) → b ≠ x := fun b zs q => ne_of q e (by intro z; cases z)
  have nkd : kd ≠ x := ne_of a.obj e (by intro z; cases z)
  refine ⟨⟨dx, k, upd_same, by rw [upd_ne kx]; exact ek, nk⟩, kvs, ⟨by rw [upd_ne nkd]; exact a.obj, fun p m => (a.keys p m).put fun zs q => by rw [e] at q; cases q⟩, fun q hq => ?_, c⟩
  obtain ⟨t', j, p, ts, g1, g2, g3, g4, g5⟩ := b q hq
  refine ⟨t', j, p, ts, g1, g2, g3, by rw [upd_ne (ne_of g4 e (by intro z; cases z))]; exact g4, g5.1, fun i a' l h1 h2 => ?_⟩
  have g := g5.2 i a' l h1 h2
  rw [upd_ne (nt _ _ g)]; exact g
theorem KeepH.set {x kd : Addr} {H H' : Hp} {o : HO} (k : KeepH x kd H H') : KeepH x kd H (upd H' x o) := fun b u h1 h2 e => by rw [upd_ne h1]; exact k b u h1 h2 e
theorem ok_mturn {f f1 f2 : Addr} {fd d1 d2 : FuncData} (F : Fun K "turn" "Holder.turn" sTurn f fd) (T : Txt K mg C) (G1 : FnOk P w K mg base CX0 2 f1 d1 ["kind"] (spNew K (fun ns => 0 < ns.length ∧ ns.length ≤ 1000) mTurned)) (D1 : Def1 K mg "turned" f1 d1 ["kind"])
    (G2 : FnOk P w K mg base CX0 1 f2 d2 ["self"] (spM P w C 0 aShow)) (M2 : Meth K C "show" f2) (b2 : Binds K d2 ["self"] []) : FnOk P w K mg base CX0 3 f fd ["self"] (spM P w C 0 aTurn) := by
  refine F.ok scTn (fun vs H Q E h => ?_) (fun cdv A outer s H vs Q E hr h => ?_)
  · obtain ⟨x, kd, T', t, n, more, r, rfl, _, _, _, ⟨rfl, _⟩, _⟩ := h
    rfl
  · obtain ⟨x, kd, T', t, n, more, r, rfl, hH, hT, hn, ⟨rfl, ht, rfl⟩, q⟩ := h
    have hr1 := hr.mono (show 1 ≤ 2 by decide)
    refine ⟨_, pss_cons (ps_fld (pv 0) (pe_call G1 hr (by rfl) D1.gl D1.kp D1.bi .nil pass0 (pa_cons (pe_fld (pv 0) rfl) pa_nil)) rfl)
      (pss_one (ps_ret (pe_meth0 (pv 0) T.cl M2 G2 hr1 b2 .nil pass0))), ?_⟩
    obtain ⟨dx, kl, e1, e2, e3⟩ := hH.ins
    have hl := ht.1.pos
    have h7 := ht.2
    refine ⟨_, rfl, x, C, dx, _, _, rfl, e1, T.cl, T.nK, hF_kind kl kd, kl, nz t, rfl, SqL.of e2, by show 0 < (nz t).length ∧ (nz t).length ≤ 1000; rw [List.length_map]; omega, fun H1 k s1 nk hk => ?_⟩
    rw [mTurned_eq ht.1] at hk
    refine ⟨_, rfl, x, C, dx, _, rfl, s1 _ _ e1, T.cl, T.nK, by show 2 < 1000; decide, ?_⟩
    rw [hF_put]
    have hH2 := (hH.same s1).set (s1 _ _ e1) hk (hT.not nk)
    have kH2 : KeepH x kd H (upd H1 x (.ins C dx (hF k kd))) := (KeepH.of s1).set
    have hl2 := turned_len ht.1
    refine ⟨_, rfl, x, dx, _, rfl, upd_same, hF_no k kd (by decide +kernel) (by decide +kernel), x, kd, T', Su184.turned t, n, [], _, rfl, hH2, hT.keep kH2 hH2, hn, ⟨rfl, by omega, rfl⟩, fun H' p hH' k' np hp => ?_⟩
    exact q H' p hH' (kH2.trans k') (hH2.fresh kH2 np) hp
def aDouble : Hp → (Addr → Prop) → List V → (List Nat × List Int) → List Nat → Prop := fun _ _ vs r t => vs = [] ∧ OkT t ∧ r = if 3 < t.length then (t, [-28]) else (Su184.doubled t, ((Su184.doubled t).length : Int) :: nz (Su184.doubled t))
theorem ok_mdouble {f f1 f2 : Addr} {fd d1 d2 : FuncData} (F : Fun K "double" "Holder.double" sDouble f fd) (T : Txt K mg C) (G1 : FnOk P w K mg base CX0 1 f1 d1 ["kind"] (spNew K (fun ns => ns.length ≤ 1000) mDoubled)) (D1 : Def1 K mg "doubled" f1 d1 ["kind"])
    (G2 : FnOk P w K mg base CX0 1 f2 d2 ["self"] (spM P w C 0 aShow)) (M2 : Meth K C "show" f2) (b2 : Binds K d2 ["self"] []) (ml : mg "len" = none) (g3 : GInt mg "MOST_DOUBLED" 3) (g28 : GInt mg "TOO_MANY" (-28)) : FnOk P w K mg base CX0 2 f fd ["self"] (spM P w C 0 aDouble) := by
  obtain ⟨t3, g3⟩ := g3
  obtain ⟨t28, g28⟩ := g28
  refine F.ok scDo (fun vs H Q E h => ?_) (fun cdv A outer s H vs Q E hr h => ?_)
  · obtain ⟨x, kd, T', t, n, more, r, rfl, _, _, _, ⟨rfl, _⟩, _⟩ := h
    rfl
  · obtain ⟨x, kd, T', t, n, more, r, rfl, hH, hT, hn, ⟨rfl, ht, rfl⟩, q⟩ := h
    refine ⟨_, pss_cons (ps_if (pt_cmpR op_gt (pe_callB call_len_seq (by rfl) ml PySem.boot_len (pa_cons (pe_fld (pv 0) rfl) pa_nil)) (pe_glob (v := .int 3) (by rfl) g3 ⟨_, rfl⟩) (nomark _)) (pss_one (ps_ret (pe_lst (pa_cons (pe_glob (v := .int (-28)) (by rfl) g28 ⟨_, rfl⟩) pa_nil)))) pss_nil)
      (pss_cons (ps_fld (pv 0) (pe_call G1 hr (by rfl) D1.gl D1.kp D1.bi .nil pass0 (pa_cons (pe_fld (pv 0) rfl) pa_nil)) rfl)
      (pss_one (ps_ret (pe_meth0 (pv 0) T.cl M2 G2 hr b2 .nil pass0)))), ?_⟩
    obtain ⟨dx, kl, e1, e2, e3⟩ := hH.ins
    have h7 := ht.2
    refine ⟨_, rfl, x, C, dx, _, _, rfl, e1, T.cl, T.nK, hF_kind kl kd, kl, _, rfl, .inl (SqL.of e2), _, _, rfl, rfl, _, rfl, ?_⟩
    refine ifB (fun h => ?_) (fun h => ?_)
    · have h3 : (3 : Int) < ((ivs (nz t)).length : Nat) := of_decide_eq_true h
      have h3 : 3 < t.length := by simp at h3; omega
      refine ⟨by show 1 ≤ sizeLine; decide, fun p np => ?_⟩
      rw [if_pos h3] at q
      exact q _ p (hH.same (same_new np)) (KeepH.of (same_new np)) np upd_same
    · have h3 : ¬ (3 : Int) < ((ivs (nz t)).length : Nat) := of_decide_eq_false h
      have h3 : ¬ 3 < t.length := by simp at h3; omega
      rw [if_neg h3] at q
      refine ⟨_, rfl, x, C, dx, _, _, rfl, e1, T.cl, T.nK, hF_kind kl kd, kl, nz t, rfl, SqL.of e2, by show (nz t).length ≤ 1000; rw [List.length_map]; omega, fun H1 k s1 nk hk => ?_⟩
      rw [mDoubled_eq] at hk
      refine ⟨_, rfl, x, C, dx, _, rfl, s1 _ _ e1, T.cl, T.nK, by show 2 < 1000; decide, ?_⟩
      rw [hF_put]
      have hH2 := (hH.same s1).set (s1 _ _ e1) hk (hT.not nk)
      have kH2 : KeepH x kd H (upd H1 x (.ins C dx (hF k kd))) := (KeepH.of s1).set
      have hl2 := doubled_len t
      refine ⟨_, rfl, x, dx, _, rfl, upd_same, hF_no k kd (by decide +kernel) (by decide +kernel), x, kd, T', Su184.doubled t, n, [], _, rfl, hH2, hT.keep kH2 hH2, hn, ⟨rfl, by omega, rfl⟩, fun H' p hH' k' np hp => ?_⟩
      exact q H' p hH' (kH2.trans k') (hH2.fresh kH2 np) hp
theorem isKind_nat {u : List Nat} {m : Nat} {b : Bool} (h : b = true ↔ (∃ t : List Nat, nz u = (t.map fun (i : Nat) => (i : Int)) ∧ IsT t) ∧ (nz u).length ≤ m) : b = true ↔ (Su184.isType u = true ∧ u.length ≤ m) := by
  rw [h, isType_iff, List.length_map]
  constructor
  · rintro ⟨⟨t, e, ht⟩, hl⟩
    have : u = t := nz_inj (congrArg ivs e)
    rw [this] at hl ⊢
    exact ⟨ht, hl⟩
  · rintro ⟨ht, hl⟩
    exact ⟨⟨u, rfl, ht⟩, hl⟩
def aTake : Hp → (Addr → Prop) → List V → (List Nat × List Int) → List Nat → Prop := fun H T vs r t => ∃ (ra : Addr) (u : List Nat), vs = [.ref ra] ∧ H ra = some (.lst (ivs (nz u))) ∧ ¬ T ra ∧ u.length ≤ 1000 ∧ r = if Su184.isType u = true ∧ u.length ≤ 7 then (u, [(u.length : Int)]) else (t, [-22])
theorem ok_mtake {f f1 : Addr} {fd d1 : FuncData} (F : Fun K "take" "Holder.take" sTake f fd) (T : Txt K mg C) (G1 : FnOk P w K mg base CX0 1 f1 d1 ["row", "most"] (spIsKind K)) (D1 : Def1 K mg "is_kind" f1 d1 ["row", "most"]) (ml : mg "len" = none) (g7 : GInt mg "MOST_TAKEN" 7) (g22 : GInt mg "NOT_AS_TOLD" (-22)) : FnOk P w K mg base CX0 2 f fd ["self", "row"] (spM P w C 1 aTake) := by
  obtain ⟨t7, g7⟩ := g7
  obtain ⟨t22, g22⟩ := g22
  refine F.ok scTk (fun vs H Q E h => ?_) (fun cdv A outer s H vs Q E hr h => ?_)
  · obtain ⟨x, kd, T', t, n, more, r, rfl, _, _, _, ⟨ra, u, rfl, _⟩, _⟩ := h
    rfl
  · obtain ⟨x, kd, T', t, n, more, r, rfl, hH, hT, hn, ⟨ra, u, rfl, hra, hraT, hul, rfl⟩, q⟩ := h
    refine ⟨_, pss_cons (ps_if (pt_not (pt_val (pe_call G1 hr (by rfl) D1.gl D1.kp D1.bi .nil pass0 (pa_cons (pv 1) (pa_cons (pe_glob (v := .int 7) (by rfl) g7 ⟨_, rfl⟩) pa_nil))))) (pss_one (ps_ret (pe_lst (pa_cons (pe_glob (v := .int (-22)) (by rfl) g22 ⟨_, rfl⟩) pa_nil)))) pss_nil)
      (pss_cons (ps_fld (pv 0) (pv 1) rfl)
      (pss_one (ps_ret (pe_lst (pa_cons (pe_callB call_len_seq (by rfl) ml PySem.boot_len (pa_cons (pv 1) pa_nil)) pa_nil))))), ?_⟩
    obtain ⟨dx, kl, e1, e2, e3⟩ := hH.ins
    refine ⟨_, rfl, ra, nz u, 7, rfl, SqL.of hra, by rw [List.length_map]; exact hul, fun H1 b s1 hb => ⟨b, rfl, ?_⟩⟩
    have hb := isKind_nat hb
    cases b with
    | false =>
      have hno : ¬ (Su184.isType u = true ∧ u.length ≤ 7) := fun z => Bool.noConfusion (hb.2 z)
      rw [if_neg hno] at q
      refine ifT ?_
      refine ⟨by show 1 ≤ sizeLine; decide, fun p np => ?_⟩
      have s2 := s1.trans (same_new (o := .lst [.int (-22)]) np)
      exact q _ p ((hH.same s2).more (by omega)) (KeepH.of s2) (none_of s1 np) upd_same
    | true =>
      have hyes := hb.1 rfl
      rw [if_pos hyes] at q
      refine ifF ?_
      refine ⟨_, rfl, _, rfl, x, C, dx, _, rfl, s1 _ _ e1, T.cl, T.nK, by show 2 < 1000; decide, ?_⟩
      rw [hF_put]
      have hH2 := (hH.same s1).set (s1 _ _ e1) (s1 _ _ hra) hraT
      have kH2 : KeepH x kd H (upd H1 x (.ins C dx (hF ra kd))) := (KeepH.of s1).set
      have rx : ra ≠ x := ne_of hra e1 (by intro z; cases z)
      refine ⟨_, rfl, ra, _, rfl, .inl (SqL.of (by rw [upd_ne rx]; exact s1 _ _ hra)), by show 1 ≤ sizeLine; decide, fun p np => ?_⟩
      have np1 : H p = none := by
        have : p ≠ x := fun z => by rw [z, upd_same] at np; cases np
        rw [upd_ne this] at np
        exact none_of s1 np
      refine q _ p ((hH2.same (same_new np)).more (by omega)) (kH2.trans (KeepH.of (same_new np))) np1 ?_
      rw [upd_same]
      simp
def aTypes : Hp → (Addr → Prop) → List V → (List Nat × List Int) → List Nat → Prop := fun _ _ vs r t => ∃ j : Nat, vs = [.int j] ∧ OkT t ∧ r = (t, if 1 ≤ j ∧ j ≤ 6 then [((Su184.types t j).length : Int)] else [-22])
theorem ok_mtypes {f f1 : Addr} {fd d1 : FuncData} (F : Fun K "types" "Holder.types" sTypes f fd) (T : Txt K mg C) (G1 : FnOk P w K mg base CX0 4 f1 d1 ["self", "kind", "steps"] (spBrought P w K C)) (M1 : Meth K C "brought" f1) (b1 : Binds K d1 ["self", "kind", "steps"] []) (ml : mg "len" = none) (g6 : GInt mg "MOST_BROUGHT" 6) (g22 : GInt mg "NOT_AS_TOLD" (-22)) : FnOk P w K mg base CX0 5 f fd ["self", "steps"] (spM P w C 1 aTypes) := by
  obtain ⟨t6, g6⟩ := g6
  obtain ⟨t22, g22⟩ := g22
  refine F.ok scTy (fun vs H Q E h => ?_) (fun cdv A outer s H vs Q E hr h => ?_)
  · obtain ⟨x, kd, T', t, n, more, r, rfl, _, _, _, ⟨j, rfl, _⟩, _⟩ := h
    rfl
  · obtain ⟨x, kd, T', t, n, more, r, rfl, hH, hT, hn, ⟨j, rfl, ht, rfl⟩, q⟩ := h
    refine ⟨_, pss_cons (ps_if (pt_not (pt_chain op_le op_le pe_int (pv 1) (pe_glob (v := .int 6) (by rfl) g6 ⟨_, rfl⟩))) (pss_one (ps_ret (pe_lst (pa_cons (pe_glob (v := .int (-22)) (by rfl) g22 ⟨_, rfl⟩) pa_nil)))) pss_nil)
      (pss_one (ps_ret (pe_lst (pa_cons (pe_callB call_len_seq (by rfl) ml PySem.boot_len (pa_cons (pe_meth (pv 0) T.cl M1 G1 hr b1 .nil pass0 (pa_cons (pe_fld (pv 0) rfl) (pa_cons (pv 1) pa_nil))) pa_nil)) pa_nil)))), ?_⟩
    obtain ⟨dx, kl, e1, e2, e3⟩ := hH.ins
    have bad : ¬ (1 ≤ j ∧ j ≤ 6) → ∀ p, H p = none → Q (.ref p) (upd H p (.lst [.int (-22)])) := fun hno p np => by
      rw [if_neg hno] at q
      exact q _ p ((hH.same (same_new np)).more (by omega)) (KeepH.of (same_new np)) np upd_same
    refine ⟨_, rfl, _, _, rfl, rfl, _, rfl, ?_⟩
    refine ifB (fun h => ?_) (fun h => ?_)
    · have h1 : (1 : Int) ≤ (j : Int) := of_decide_eq_true h
      refine ⟨_, _, rfl, rfl, _, rfl, ?_⟩
      by_cases h6 : j ≤ 6
      · rw [show decide ((j : Int) ≤ 6) = true from decide_eq_true (by omega)]
        refine ifF ?_
        rw [if_pos (show 1 ≤ j ∧ j ≤ 6 by omega)] at q
        refine ⟨_, rfl, x, dx, _, rfl, e1, hF_no kl kd (by decide +kernel) (by decide +kernel), _, rfl, x, C, dx, _, _, rfl, e1, T.cl, T.nK, hF_kind kl kd, _, rfl, x, kd, kl, T', t, t, n, j, rfl, hH, hT, by omega, .inl (SqL.of e2), ht.1, ht.2, by omega, h6, fun H1 p ts hH1 k1 hp hts => ?_⟩
        refine ⟨p, _, rfl, .inl (SqL.of hp), by show 1 ≤ sizeLine; decide, fun p2 np2 => ?_⟩
        have np : H p2 = none := hH1.fresh k1 np2
        refine q _ p2 (hH1.same (same_new np2)) (k1.trans (KeepH.of (same_new np2))) np ?_
        rw [upd_same, List.length_map, hts.1]
        rfl
      · rw [show decide ((j : Int) ≤ 6) = false from decide_eq_false (by omega)]
        refine ifT ?_
        exact ⟨by show 1 ≤ sizeLine; decide, fun p np => bad (by omega) p np⟩
    · have h1 : ¬ (1 : Int) ≤ (j : Int) := of_decide_eq_false h
      refine ⟨_, rfl, ?_⟩
      refine ifT ?_
      exact ⟨by show 1 ≤ sizeLine; decide, fun p np => bad (by omega) p np⟩
/-! a tuple among tuples -/
def dTup (l : List Nat) : PyData := .tuple ((nz l).map PyData.int)
theorem dp_tups {H : Hp} : ∀ {ts : List Addr} {L : List (List Nat)}, Tups H ts L → DpAll K H (ts.map V.ref) (L.map dTup)
  | [], [], _ => .nil
  | [], _ :: _, h => by have := h.1; simp at this
  | _ :: _, [], h => by have := h.1; simp at this
  | a :: ts, l :: L, h => .cons (.tup (.inl (.inl (h.2 0 a l rfl rfl))) (dp_ints K H _)) (dp_tups ⟨by have := h.1; simpa using this, fun i b m h1 h2 => h.2 (i + 1) b m h1 h2⟩)
theorem shaped_tup (l : List Nat) : SeqAt.shaped (dTup l) = true := by
  unfold SeqAt.shaped dTup
  rw [Bool.and_eq_true, decide_eq_true_eq]
  constructor
  · rw [PyData.canLay0]; exact lay_ints _
  · rw [PyData.depth]
    have := depth_ints (nz l)
    omega
theorem shaped_tups (L : List (List Nat)) : SeqAt.shaped (.list (L.map dTup)) = true := by
  unfold SeqAt.shaped
  rw [Bool.and_eq_true, decide_eq_true_eq]
  have hl : ∀ L : List (List Nat), PyData.canLayAll0 (L.map dTup) = true ∧ PyData.depthAll (L.map dTup) ≤ 2 := by
    intro L
    induction L with
    | nil => exact ⟨rfl, by decide⟩
    | cons l L ih =>
      rw [List.map_cons, PyData.canLayAll0, PyData.depthAll, ih.1]
      have h1 := shaped_tup l
      unfold SeqAt.shaped at h1
      rw [Bool.and_eq_true] at h1
      refine ⟨by rw [h1.1]; rfl, ?_⟩
      have h2 : (dTup l).depth ≤ 2 := by
        unfold dTup
        rw [PyData.depth]
        have := depth_ints (nz l)
        omega
      have := ih.2
      omega
  obtain ⟨h1, h2⟩ := hl L
  refine ⟨by rw [PyData.canLay0]; exact h1, ?_⟩
  rw [PyData.depth]
  omega
theorem any_tup (L : List (List Nat)) (u : List Nat) : ((L.map dTup).any fun z => PyData.eqv z (dTup u)) = L.contains u := by
  induction L with
  | nil => rfl
  | cons l L ih =>
    rw [List.map_cons, List.any_cons, ih, List.contains_cons]
    congr 1
    unfold dTup
    rw [PyData.eqv, eqv_ints, Bool.eq_iff_iff, decide_eq_true_eq, beq_iff_eq]
    constructor
    · intro e; exact (nz_inj (congrArg ivs e)).symm
    · intro e; rw [e]
def aBrings : Hp → (Addr → Prop) → List V → (List Nat × List Int) → List Nat → Prop := fun H T vs r t => ∃ (ra : Addr) (u : List Nat), vs = [.ref ra] ∧ H ra = some (.lst (ivs (nz u))) ∧ u.length ≤ 1000 ∧ OkT t ∧ r = (t, if Su184.isType u = true ∧ u.length ≤ 6 then [if Su184.brings t u = true then 1 else 0] else [-22])
theorem ok_mbrings {f f1 f2 : Addr} {fd d1 d2 : FuncData} (F : Fun K "brings" "Holder.brings" sBrings f fd) (T : Txt K mg C) (G1 : FnOk P w K mg base CX0 4 f1 d1 ["self", "kind", "steps"] (spBrought P w K C)) (M1 : Meth K C "brought" f1) (b1 : Binds K d1 ["self", "kind", "steps"] [])
    (G2 : FnOk P w K mg base CX0 1 f2 d2 ["row", "most"] (spIsKind K)) (D2 : Def1 K mg "is_kind" f2 d2 ["row", "most"]) (ml : mg "len" = none) (mt : mg "tuple" = none) (g6 : GInt mg "MOST_BROUGHT" 6) (g22 : GInt mg "NOT_AS_TOLD" (-22)) : FnOk P w K mg base CX0 5 f fd ["self", "row"] (spM P w C 1 aBrings) := by
  obtain ⟨t6, g6⟩ := g6
  obtain ⟨t22, g22⟩ := g22
  refine F.ok scBs (fun vs H Q E h => ?_) (fun cdv A outer s H vs Q E hr h => ?_)
  · obtain ⟨x, kd, T', t, n, more, r, rfl, _, _, _, ⟨ra, u, rfl, _⟩, _⟩ := h
    rfl
  · obtain ⟨x, kd, T', t, n, more, r, rfl, hH, hT, hn, ⟨ra, u, rfl, hra, hul, ht, rfl⟩, q⟩ := h
    have hr1 := hr.mono (show 1 ≤ 4 by decide)
    have hu : (A.deeper (envOfC "Holder.brings" (defScope sBrings) s.heap.objs.size f cdv)).units + 65 < cLine := by have := hr.un; omega
    refine ⟨_, pss_cons (ps_if (pt_not (pt_val (pe_call G2 hr1 (by rfl) D2.gl D2.kp D2.bi .nil pass0 (pa_cons (pv 1) (pa_cons (pe_glob (v := .int 6) (by rfl) g6 ⟨_, rfl⟩) pa_nil))))) (pss_one (ps_ret (pe_lst (pa_cons (pe_glob (v := .int (-22)) (by rfl) g22 ⟨_, rfl⟩) pa_nil)))) pss_nil)
      (pss_one (ps_ret (pe_lst (pa_cons (pe_ifExp (pt_cmpR (op_inD hu) (pe_tupleOf (by rfl) mt (pv 1)) (pe_meth (pv 0) T.cl M1 G1 hr b1 .nil pass0 (pa_cons (pe_fld (pv 0) rfl) (pa_cons (pe_callB call_len_seq (by rfl) ml PySem.boot_len (pa_cons (pv 1) pa_nil)) pa_nil))) (by rfl)) pe_int pe_int) pa_nil)))), ?_⟩
    obtain ⟨dx, kl, e1, e2, e3⟩ := hH.ins
    refine ⟨_, rfl, ra, nz u, 6, rfl, SqL.of hra, by rw [List.length_map]; exact hul, fun H1 b s1 hb => ⟨b, rfl, ?_⟩⟩
    have hb := isKind_nat hb
    cases b with
    | false =>
      have hno : ¬ (Su184.isType u = true ∧ u.length ≤ 6) := fun z => Bool.noConfusion (hb.2 z)
      rw [if_neg hno] at q
      refine ifT ?_
      refine ⟨by show 1 ≤ sizeLine; decide, fun p np => ?_⟩
      have s2 := s1.trans (same_new (o := .lst [.int (-22)]) np)
      exact q _ p ((hH.same s2).more (by omega)) (KeepH.of s2) (none_of s1 np) upd_same
    | true =>
      have hyes := hb.1 rfl
      rw [if_pos hyes] at q
      have hpos := ((isType_iff u).1 hyes.1).pos
      refine ifF ?_
      refine ⟨_, rfl, .inl ⟨ra, _, rfl, SqL.of (s1 _ _ hra), fun tt ntt => ?_⟩⟩
      have s2 : Same H1 (upd H1 tt (.tup (ivs (nz u)))) := same_new ntt
      have s12 := s1.trans s2
      refine ⟨_, rfl, x, dx, _, rfl, s12 _ _ e1, hF_no kl kd (by decide +kernel) (by decide +kernel), _, rfl, x, C, dx, _, _, rfl, s12 _ _ e1, T.cl, T.nK, hF_kind kl kd, _, rfl, ra, _, rfl, .inl (SqL.of (s12 _ _ hra)), x, kd, kl, T', t, t, n, u.length, by simp, hH.same s12, hT.same s12, by omega, .inl (SqL.of (s12 _ _ e2)), ht.1, ht.2, by omega, hyes.2, fun H3 p ts hH3 k3 hp hts => ?_⟩
      have ttx : tt ≠ x := (ne_of_none (s1 _ _ e1) ntt).symm
      have ttk : tt ≠ kd := by
        obtain ⟨kvs, na, _⟩ := (hH.same s1).kn
        exact (ne_of_none na.obj ntt).symm
      have htt := k3 _ _ ttx ttk upd_same
      refine ⟨dTup u, (Su184.types t u.length).map dTup, .tup (.inl (.inl htt)) (dp_ints K H3 _), .lst (SqL.of hp) (dp_tups hts), shaped_tup u, shaped_tups _, _, rfl, ?_⟩
      rw [any_tup]
      have fin : ∀ v : Int, v = (if Su184.brings t u = true then 1 else 0) → ∀ p2, H3 p2 = none → Q (.ref p2) (upd H3 p2 (.lst [.int v])) := fun v hv p2 np2 => by
        have np := none_of s12 (hH3.fresh k3 np2)
        refine q _ p2 (hH3.same (same_new np2)) (((KeepH.of s12).trans k3).trans (KeepH.of (same_new np2))) np ?_
        rw [upd_same, hv]; rfl
      have hbr : (Su184.types t u.length).contains u = Su184.brings t u := rfl
      rw [hbr]
      refine ifB (fun h => ?_) (fun h => ?_)
      · exact ⟨by show 1 ≤ sizeLine; decide, fun p2 np2 => fin 1 (by rw [if_pos h]) p2 np2⟩
      · exact ⟨by show 1 ≤ sizeLine; decide, fun p2 np2 => fin 0 (by rw [h]; rfl) p2 np2⟩
end
end Rt

set_option Elab.async false
set_option maxRecDepth 100000
set_option maxHeartbeats 4000000
namespace Rt
open PySem PySem.Spec PyProof.Rows L2
theorem scNt : FnScope ["self", "steps", "before", "kinds"] ["self", "steps", "before"] (defScope sNth) := ⟨rfl, rfl, rfl, by decide +kernel, rfl, by decide +kernel, by decide +kernel⟩
theorem scSt : FnScope ["self", "together", "worth", "steps"] ["self"] (defScope sSteps) := ⟨rfl, rfl, rfl, by decide +kernel, rfl, by decide +kernel, by decide +kernel⟩
theorem scAl : FnScope ["self", "alike"] ["self"] (defScope sAlone) := ⟨rfl, rfl, rfl, by decide +kernel, rfl, by decide +kernel, by decide +kernel⟩
section
variable {P : Program} {w : World} {K : PySem.W.Frag} {mg : Str → Option Value} {base : Heap} {C : Addr}
def aNth : Hp → (Addr → Prop) → List V → (List Nat × List Int) → List Nat → Prop := fun _ _ vs r t => ∃ j i : Nat, vs = [.int j, .int i] ∧ OkT t ∧ r = (t, if 1 ≤ j ∧ j ≤ 6 then (if h : i < (Su184.types t j).length then (j : Int) :: nz (Su184.types t j)[i] else [-33]) else [-22])
theorem ok_mnth {f f1 : Addr} {fd d1 : FuncData} (F : Fun K "nth" "Holder.nth" sNth f fd) (T : Txt K mg C) (G1 : FnOk P w K mg base CX0 4 f1 d1 ["self", "kind", "steps"] (spBrought P w K C)) (M1 : Meth K C "brought" f1) (b1 : Binds K d1 ["self", "kind", "steps"] []) (ml : mg "len" = none) (mli : mg "list" = none) (g6 : GInt mg "MOST_BROUGHT" 6) (g22 : GInt mg "NOT_AS_TOLD" (-22)) (g33 : GInt mg "NO_MORE" (-33)) : FnOk P w K mg base CX0 5 f fd ["self", "steps", "before"] (spM P w C 1 aNth) := by
  obtain ⟨t6, g6⟩ := g6
  obtain ⟨t22, g22⟩ := g22
  obtain ⟨t33, g33⟩ := g33
  refine F.ok scNt (fun vs H Q E h => ?_) (fun cdv A outer s H vs Q E hr h => ?_)
  · obtain ⟨x, kd, T', t, n, more, r, rfl, _, _, _, ⟨j, i, rfl, _⟩, _⟩ := h
    rfl
  · obtain ⟨x, kd, T', t, n, more, r, rfl, hH, hT, hn, ⟨j, i, rfl, ht, rfl⟩, q⟩ := h
    refine ⟨_, pss_cons (ps_if (pt_not (pt_chain op_le op_le pe_int (pv 1) (pe_glob (v := .int 6) (by rfl) g6 ⟨_, rfl⟩))) (pss_one (ps_ret (pe_lst (pa_cons (pe_glob (v := .int (-22)) (by rfl) g22 ⟨_, rfl⟩) pa_nil)))) pss_nil)
      (pss_cons (ps_set (i := 3) scNt.nd rfl (Or.inl rfl) (pe_meth (pv 0) T.cl M1 G1 hr b1 .nil pass0 (pa_cons (pe_fld (pv 0) rfl) (pa_cons (pv 1) pa_nil))))
      (pss_cons (ps_if (pt_cmpR op_le (pe_callB call_len_seq (by rfl) ml PySem.boot_len (pa_cons (pv 3) pa_nil)) (pv 2) (nomark _)) (pss_one (ps_ret (pe_lst (pa_cons (pe_glob (v := .int (-33)) (by rfl) g33 ⟨_, rfl⟩) pa_nil)))) pss_nil)
      (pss_one (ps_ret (pe_op op_cat (pe_lst (pa_cons (pv 1) pa_nil)) (pe_callTy call_list_of (by rfl) mli (by decide +kernel) (pa_cons (pe_ix ix_list (pv 3) (pv 2) (fun _ _ => rfl)) pa_nil))))))), ?_⟩
    obtain ⟨dx, kl, e1, e2, e3⟩ := hH.ins
    have bad : ¬ (1 ≤ j ∧ j ≤ 6) → ∀ p, H p = none → Q (.ref p) (upd H p (.lst [.int (-22)])) := fun hno p np => by
      rw [if_neg hno] at q
      exact q _ p ((hH.same (same_new np)).more (by omega)) (KeepH.of (same_new np)) np upd_same
    refine ⟨_, rfl, _, _, rfl, rfl, _, rfl, ?_⟩
    refine ifB (fun h => ?_) (fun h => ?_)
    · have h1 : (1 : Int) ≤ (j : Int) := of_decide_eq_true h
      refine ⟨_, _, rfl, rfl, _, rfl, ?_⟩
      by_cases h6 : j ≤ 6
      · rw [show decide ((j : Int) ≤ 6) = true from decide_eq_true (by omega)]
        refine ifF ?_
        rw [if_pos (show 1 ≤ j ∧ j ≤ 6 by omega)] at q
        refine ⟨_, rfl, x, dx, _, rfl, e1, hF_no kl kd (by decide +kernel) (by decide +kernel), _, rfl, x, C, dx, _, _, rfl, e1, T.cl, T.nK, hF_kind kl kd, _, rfl, x, kd, kl, T', t, t, n, j, rfl, hH, hT, by omega, .inl (SqL.of e2), ht.1, ht.2, by omega, h6, fun H1 p ts hH1 k1 hp hts => ?_⟩
        refine ⟨_, rfl, p, _, rfl, .inl (SqL.of hp), _, rfl, _, _, rfl, rfl, _, rfl, ?_⟩
        rw [List.length_map, hts.1]
        refine ifB (fun h => ?_) (fun h => ?_)
        · have h2 : ((Su184.types t j).length : Int) ≤ (i : Int) := of_decide_eq_true h
          rw [dif_neg (by omega)] at q
          refine ⟨by show 1 ≤ sizeLine; decide, fun p2 np2 => ?_⟩
          exact q _ p2 (hH1.same (same_new np2)) (k1.trans (KeepH.of (same_new np2))) (hH1.fresh k1 np2) upd_same
        · have h2 : ¬ ((Su184.types t j).length : Int) ≤ (i : Int) := of_decide_eq_false h
          have hi : i < (Su184.types t j).length := by omega
          rw [dif_pos hi] at q
          have hul : ((Su184.types t j)[i]).length = j := types_len ht.1 (List.getElem_mem hi)
          have hi2 : i < ts.length := by rw [hts.1]; exact hi
          have hat : atI (ts.map V.ref) (i : Nat) = some (.ref ts[i]) := atI_nat (by rw [List.getElem?_map, List.getElem?_eq_getElem hi2]; rfl)
          have hu := hts.2 i _ _ (List.getElem?_eq_getElem hi2) (List.getElem?_eq_getElem hi)
          generalize (Su184.types t j)[i] = u at *
          refine ⟨_, rfl, by show 1 ≤ sizeLine; decide, fun p1 np1 => ?_⟩
          have s1 : Same H1 (upd H1 p1 (.lst [.int (j : Nat)])) := same_new np1
          refine ⟨_, rfl, _, rfl, p, _, _, _, rfl, rfl, SqL.of (s1 _ _ hp), hat, _, _, rfl, .inr (tSq s1 hu), fun p2 np2 => ?_⟩
          have s2 : Same (upd H1 p1 (.lst [.int (j : Nat)])) (upd (upd H1 p1 (.lst [.int (j : Nat)])) p2 (.lst (ivs (nz u)))) := same_new np2
          refine ⟨p1, p2, _, _, rfl, rfl, s2 _ _ upd_same, upd_same, ?_, fun p3 np3 => ?_⟩
          · refine Nat.le_of_lt (small ?_)
            simp; omega
          · have s3 := (s1.trans s2).trans (same_new (o := .lst ([V.int (j : Nat)] ++ ivs (nz u))) np3)
            refine q _ p3 (hH1.same s3) (k1.trans (KeepH.of s3)) (hH1.fresh k1 (none_of (s1.trans s2) np3)) ?_
            rw [upd_same]; rfl
      · rw [show decide ((j : Int) ≤ 6) = false from decide_eq_false (by omega)]
        refine ifT ?_
        exact ⟨by show 1 ≤ sizeLine; decide, fun p np => bad (by omega) p np⟩
    · have h1 : ¬ (1 : Int) ≤ (j : Int) := of_decide_eq_false h
      refine ⟨_, rfl, ?_⟩
      refine ifT ?_
      exact ⟨by show 1 ≤ sizeLine; decide, fun p np => bad (by omega) p np⟩
/-! of 1 to 6 together -/
def stepsTo (t : List Nat) (m : Nat) : Nat := ((List.range m).map fun i => if (Su184.types t (i + 1)).isEmpty = true then 0 else 2 ^ i).sum
theorem stepsTo_succ (t : List Nat) (m : Nat) : stepsTo t (m + 1) = stepsTo t m + (if (Su184.types t (m + 1)).isEmpty = true then 0 else 2 ^ m) := by
  unfold stepsTo
  rw [List.range_succ, List.map_append, List.sum_append]
  simp
theorem stepsTo_lt (t : List Nat) : ∀ m, stepsTo t m < 2 ^ m
  | 0 => by simp [stepsTo]
  | m + 1 => by
    rw [stepsTo_succ, Nat.pow_succ]
    have := stepsTo_lt t m
    split <;> omega
def aSteps : Hp → (Addr → Prop) → List V → (List Nat × List Int) → List Nat → Prop := fun _ _ vs r t => vs = [] ∧ OkT t ∧ r = (t, [(stepsTo t 6 : Int)])
theorem ok_msteps {f f1 : Addr} {fd d1 : FuncData} (F : Fun K "steps" "Holder.steps" sSteps f fd) (T : Txt K mg C) (G1 : FnOk P w K mg base CX0 4 f1 d1 ["self", "kind", "steps"] (spBrought P w K C)) (M1 : Meth K C "brought" f1) (b1 : Binds K d1 ["self", "kind", "steps"] []) (ml : mg "len" = none) (mr : mg "range" = none) (g6 : GInt mg "MOST_BROUGHT" 6) : FnOk P w K mg base CX0 5 f fd ["self"] (spM P w C 6 aSteps) := by
  obtain ⟨t6, g6⟩ := g6
  refine F.ok scSt (fun vs H Q E h => ?_) (fun cdv A outer s H vs Q E hr h => ?_)
  · obtain ⟨x, kd, T', t, n, more, r, rfl, _, _, _, ⟨rfl, _⟩, _⟩ := h
    rfl
  · obtain ⟨x, kd, T', t, n, more, r, rfl, hH, hT, hn, ⟨rfl, ht, rfl⟩, q⟩ := h
    refine ⟨_, pss_cons (ps_set (i := 1) scSt.nd rfl (Or.inl rfl) pe_int) (pss_cons (ps_set (i := 2) scSt.nd rfl (Or.inl rfl) pe_int)
      (pss_cons (ps_for PassesOwn.never rfl (pi_range2 (by rfl) mr (pa_cons pe_int (pa_cons (pe_op op_add (pe_glob (v := .int 6) (by rfl) g6 ⟨_, rfl⟩) pe_int) pa_nil))) (pg_name (i := 3) scSt.nd rfl (Or.inl rfl))
        (pss_cons (ps_if (pt_cmpR op_gt (pe_callB call_len_seq (by rfl) ml PySem.boot_len (pa_cons (pe_meth (pv 0) T.cl M1 G1 hr b1 .nil pass0 (pa_cons (pe_fld (pv 0) rfl) (pa_cons (pv 3) pa_nil))) pa_nil)) pe_int (nomark _))
          (pss_one (ps_set (i := 1) scSt.nd rfl (Or.inl rfl) (pe_op op_add (pv 1) (pv 2)))) pss_nil)
        (pss_one (ps_set (i := 2) scSt.nd rfl (Or.inl rfl) (pe_op op_mul pe_int (pv 2))))))
      (pss_one (ps_ret (pe_lst (pa_cons (pv 1) pa_nil)))))), ?_⟩
    refine ⟨_, _, rfl, rfl, 1, 7, rfl, ⟨by omega, by omega, by omega, by omega⟩, ?_⟩
    rw [show ((7 : Int) - 1).toNat = 6 by omega]
    refine for_range (lo := 1) (n := 6) (fun i σ H' => ∃ y3, σ = [some (.ref x), some (.int (stepsTo t i : Nat)), some (.int ((2 ^ i : Nat) : Int)), y3] ∧ Hold P w C H' x kd T' t (n + i) ∧ KeepH x kd H H') ?_ ?_ ?_
    · exact ⟨none, rfl, hH, KeepH.refl _ _ _⟩
    · rintro i σ H' hi ⟨y3, rfl, hH', k'⟩
      obtain ⟨dx, kl, e1, e2, e3⟩ := hH'.ins
      have ei : (1 : Int) + (i : Int) = ((i + 1 : Nat) : Int) := by omega
      have hp2 : 2 ^ i ≤ 2 ^ 6 := Nat.pow_le_pow_right (by decide) (by omega)
      have hlt := stepsTo_lt t i
      refine ⟨_, rfl, x, dx, _, rfl, e1, hF_no kl kd (by decide +kernel) (by decide +kernel), _, rfl, x, C, dx, _, _, rfl, e1, T.cl, T.nK, hF_kind kl kd, _, rfl, x, kd, kl, T', t, t, n + i, i + 1, by rw [ei]; rfl, hH', hT.keep k' hH', by omega, .inl (SqL.of e2), ht.1, ht.2, by omega, by omega, fun H1 p ts hH1 k1 hp hts => ?_⟩
      refine ⟨p, _, rfl, .inl (SqL.of hp), _, _, rfl, rfl, _, rfl, ?_⟩
      have ew : (2 : Int) * ((2 ^ i : Nat) : Int) = ((2 ^ (i + 1) : Nat) : Int) := by rw [Nat.pow_succ]; omega
      rw [List.length_map, hts.1]
      refine ifB (fun h => ?_) (fun h => ?_)
      · have h2 : (0 : Int) < ((Su184.types t (i + 1)).length : Nat) := of_decide_eq_true h
        have he : ¬ (Su184.types t (i + 1)).isEmpty = true := by
          intro z
          rw [List.isEmpty_iff.1 z] at h2
          simp at h2
        refine ⟨_, rfl, _, rfl, _, _, rfl, rfl, _, rfl, _, _, rfl, rfl, .inl ⟨by decide, by decide⟩, some (.int (1 + (i : Int))), ?_, hH1, k'.trans k1⟩
        show [some (V.ref x), some (V.int (((stepsTo t i : Nat) : Int) + ((2 ^ i : Nat) : Int))), some (V.int (2 * ((2 ^ i : Nat) : Int))), some (.int (1 + (i : Int)))] = _
        rw [ew, stepsTo_succ, if_neg he, show ((stepsTo t i : Nat) : Int) + ((2 ^ i : Nat) : Int) = ((stepsTo t i + 2 ^ i : Nat) : Int) by omega]
      · have h2 : ¬ (0 : Int) < ((Su184.types t (i + 1)).length : Nat) := of_decide_eq_false h
        have he : (Su184.types t (i + 1)).isEmpty = true := List.isEmpty_iff.2 (List.length_eq_zero_iff.1 (by omega))
        refine ⟨_, rfl, _, _, rfl, rfl, .inl ⟨by decide, by decide⟩, some (.int (1 + (i : Int))), ?_, hH1, k'.trans k1⟩
        show [some (V.ref x), some (V.int ((stepsTo t i : Nat) : Int)), some (V.int (2 * ((2 ^ i : Nat) : Int))), some (.int (1 + (i : Int)))] = _
        rw [ew, stepsTo_succ, if_pos he]; rfl
    · rintro σ H' ⟨y3, rfl, hH', k'⟩
      refine ⟨_, rfl, by show 1 ≤ sizeLine; decide, fun p np => ?_⟩
      exact q _ p (hH'.same (same_new np)) (k'.trans (KeepH.of (same_new np))) (hH'.fresh k' np) upd_same
def aAlone : Hp → (Addr → Prop) → List V → (List Nat × List Int) → List Nat → Prop := fun _ _ vs r t => vs = [] ∧ OkT t ∧ r = (t, if 6 < t.length then [-28] else [if (Su184.types t t.length).length = 1 then 1 else 0, ((Su184.types t t.length).length : Int)])
theorem ok_malone {f f1 : Addr} {fd d1 : FuncData} (F : Fun K "alone" "Holder.alone" sAlone f fd) (T : Txt K mg C) (G1 : FnOk P w K mg base CX0 4 f1 d1 ["self", "kind", "steps"] (spBrought P w K C)) (M1 : Meth K C "brought" f1) (b1 : Binds K d1 ["self", "kind", "steps"] []) (ml : mg "len" = none) (g6 : GInt mg "MOST_BROUGHT" 6) (g28 : GInt mg "TOO_MANY" (-28)) : FnOk P w K mg base CX0 5 f fd ["self"] (spM P w C 1 aAlone) := by
  obtain ⟨t6, g6⟩ := g6
  obtain ⟨t28, g28⟩ := g28
  refine F.ok scAl (fun vs H Q E h => ?_) (fun cdv A outer s H vs Q E hr h => ?_)
  · obtain ⟨x, kd, T', t, n, more, r, rfl, _, _, _, ⟨rfl, _⟩, _⟩ := h
    rfl
  · obtain ⟨x, kd, T', t, n, more, r, rfl, hH, hT, hn, ⟨rfl, ht, rfl⟩, q⟩ := h
    refine ⟨_, pss_cons (ps_if (pt_cmpR op_gt (pe_callB call_len_seq (by rfl) ml PySem.boot_len (pa_cons (pe_fld (pv 0) rfl) pa_nil)) (pe_glob (v := .int 6) (by rfl) g6 ⟨_, rfl⟩) (nomark _)) (pss_one (ps_ret (pe_lst (pa_cons (pe_glob (v := .int (-28)) (by rfl) g28 ⟨_, rfl⟩) pa_nil)))) pss_nil)
      (pss_cons (ps_set (i := 1) scAl.nd rfl (Or.inl rfl) (pe_callB call_len_seq (by rfl) ml PySem.boot_len (pa_cons (pe_meth (pv 0) T.cl M1 G1 hr b1 .nil pass0 (pa_cons (pe_fld (pv 0) rfl) (pa_cons (pe_callB call_len_seq (by rfl) ml PySem.boot_len (pa_cons (pe_fld (pv 0) rfl) pa_nil)) pa_nil))) pa_nil)))
      (pss_one (ps_ret (pe_lst (pa_cons (pe_ifExp (pt_cmpR op_eq (pv 1) pe_int (nomark _)) pe_int pe_int) (pa_cons (pv 1) pa_nil)))))), ?_⟩
    obtain ⟨dx, kl, e1, e2, e3⟩ := hH.ins
    have hpos := ht.1.pos
    refine ⟨_, rfl, x, C, dx, _, _, rfl, e1, T.cl, T.nK, hF_kind kl kd, kl, _, rfl, .inl (SqL.of e2), _, _, rfl, rfl, _, rfl, ?_⟩
    rw [List.length_map, List.length_map]
    refine ifB (fun h => ?_) (fun h => ?_)
    · have h6 : (6 : Int) < (t.length : Nat) := of_decide_eq_true h
      rw [if_pos (by omega)] at q
      refine ⟨by show 1 ≤ sizeLine; decide, fun p np => ?_⟩
      exact q _ p ((hH.same (same_new np)).more (by omega)) (KeepH.of (same_new np)) np upd_same
    · have h6 : ¬ (6 : Int) < (t.length : Nat) := of_decide_eq_false h
      rw [if_neg (by omega)] at q
      refine ⟨_, rfl, x, dx, _, rfl, e1, hF_no kl kd (by decide +kernel) (by decide +kernel), _, rfl, x, C, dx, _, _, rfl, e1, T.cl, T.nK, hF_kind kl kd, _, rfl, x, C, dx, _, _, rfl, e1, T.cl, T.nK, hF_kind kl kd, kl, _, rfl, .inl (SqL.of e2), x, kd, kl, T', t, t, n, t.length, by simp, hH, hT, by omega, .inl (SqL.of e2), ht.1, ht.2, by omega, by omega, fun H1 p ts hH1 k1 hp hts => ?_⟩
      refine ⟨p, _, rfl, .inl (SqL.of hp), _, rfl, rfl, _, rfl, ?_⟩
      rw [List.length_map, hts.1]
      have fin : ∀ v : Int, v = (if (Su184.types t t.length).length = 1 then 1 else 0) → ∀ p2, H1 p2 = none → Q (.ref p2) (upd H1 p2 (.lst [.int v, .int ((Su184.types t t.length).length : Nat)])) := fun v hv p2 np2 => by
        refine q _ p2 (hH1.same (same_new np2)) (k1.trans (KeepH.of (same_new np2))) (hH1.fresh k1 np2) ?_
        rw [upd_same, hv]; rfl
      refine ifB (fun h => ?_) (fun h => ?_)
      · have h2 : ((Su184.types t t.length).length : Int) = 1 := V.int.inj (of_decide_eq_true h)
        refine ⟨_, rfl, by show 2 ≤ sizeLine; decide, fun p2 np2 => fin 1 ?_ p2 np2⟩
        rw [if_pos (by omega)]
      · have h2 : ¬ (Su184.types t t.length).length = 1 := fun e => of_decide_eq_false h (by rw [e]; rfl)
        refine ⟨_, rfl, by show 2 ≤ sizeLine; decide, fun p2 np2 => fin 0 ?_ p2 np2⟩
        rw [if_neg h2]
end
end Rt

set_option Elab.async false
set_option maxRecDepth 100000
set_option maxHeartbeats 4000000
namespace Rt
open PySem PySem.Spec PyProof.Rows L2
theorem scBy : FnScope ["self", "steps", "held", "bringing", "kind"] ["self", "steps"] (defScope sBy) := ⟨rfl, rfl, rfl, by decide +kernel, rfl, by decide +kernel, by decide +kernel⟩
theorem scFi : FnScope ["self", "steps", "kinds", "least", "kind"] ["self", "steps"] (defScope sFirst) := ⟨rfl, rfl, rfl, by decide +kernel, rfl, by decide +kernel, by decide +kernel⟩
/-- a list made anew and changed since -/
theorem KeepH.at {x kd D : Addr} {H H' : Hp} {o : HO} (k : KeepH x kd H H') (n : H D = none) : KeepH x kd H (upd H' D o) := fun b u h1 h2 e => by rw [upd_ne (ne_of_none e n)]; exact k b u h1 h2 e
theorem KeepH.tup {P : Program} {w : World} {C x kd : Addr} {T : Addr → Prop} {t : List Nat} {n : Nat} {H H' : Hp} (k : KeepH x kd H H') (h : Hold P w C H x kd T t n) : ∀ b zs, H b = some (.tup zs) → H' b = some (.tup zs) := fun b zs e =>
  let ⟨a1, a2⟩ := h.apart e (.inr ⟨zs, rfl⟩); k b _ a1 a2 e
theorem KeepH.lst {P : Program} {w : World} {C x kd : Addr} {T : Addr → Prop} {t : List Nat} {n : Nat} {H H' : Hp} (k : KeepH x kd H H') (h : Hold P w C H x kd T t n) : ∀ b zs, H b = some (.lst zs) → H' b = some (.lst zs) := fun b zs e =>
  let ⟨a1, a2⟩ := h.apart e (.inl ⟨zs, rfl⟩); k b _ a1 a2 e
section
variable {P : Program} {w : World} {K : PySem.W.Frag} {mg : Str → Option Value} {base : Heap} {C : Addr}
abbrev byL (t : List Nat) (k : Nat) : List (List Nat) := (Su184.all k).filter fun u => Su184.brings u t
def aBy : Hp → (Addr → Prop) → List V → (List Nat × List Int) → List Nat → Prop := fun _ _ vs r t => ∃ k : Nat, vs = [.int k] ∧ OkT t ∧ r = (t, if 1 ≤ k ∧ k ≤ 5 then (if 5 < t.length then [-28] else ((byL t k).length : Int) :: nz ((byL t k).headD [])) else [-22])
abbrev noX : XK := fun _ _ _ => False
theorem ok_mby {f f1 f2 : Addr} {fd d1 d2 : FuncData} (F : Fun K "by" "Holder.by" sBy f fd) (T : Txt K mg C) (G1 : FnOk P w K mg base CX0 4 f1 d1 ["self", "kind", "steps"] (spBrought P w K C)) (M1 : Meth K C "brought" f1) (b1 : Binds K d1 ["self", "kind", "steps"] [])
    (G2 : FnOk P w K mg base CX0 1 f2 d2 ["steps"] spKo) (D2 : Def1 K mg "kinds_of" f2 d2 ["steps"]) (ml : mg "len" = none) (mt : mg "tuple" = none) (mli : mg "list" = none) (g5 : GInt mg "MOST_COMPARED" 5) (g22 : GInt mg "NOT_AS_TOLD" (-22)) (g28 : GInt mg "TOO_MANY" (-28)) : FnOk P w K mg base CX0 5 f fd ["self", "steps"] (spM P w C 24 aBy) := by
  obtain ⟨t5, g5⟩ := g5
  obtain ⟨t22, g22⟩ := g22
  obtain ⟨t28, g28⟩ := g28
  refine F.ok scBy (fun vs H Q E h => ?_) (fun cdv A outer s H vs Q E hr h => ?_)
  · obtain ⟨x, kd, T', t, n, more, r, rfl, _, _, _, ⟨k, rfl, _⟩, _⟩ := h
    rfl
  · obtain ⟨x, kd, T', t, n, more, r, rfl, hH, hT, hn, ⟨k, rfl, ht, rfl⟩, q⟩ := h
    have hr1 := hr.mono (show 1 ≤ 4 by decide)
    have hu : (A.deeper (envOfC "Holder.by" (defScope sBy) s.heap.objs.size f cdv)).units + 65 < cLine := by have := hr.un; omega
    refine ⟨_, pss_cons (ps_if (pt_not (pt_chain op_le op_le pe_int (pv 1) (pe_glob (v := .int 5) (by rfl) g5 ⟨_, rfl⟩))) (pss_one (ps_ret (pe_lst (pa_cons (pe_glob (v := .int (-22)) (by rfl) g22 ⟨_, rfl⟩) pa_nil)))) pss_nil)
      (pss_cons (ps_set (i := 2) scBy.nd rfl (Or.inr rfl) (pe_tupleOf (by rfl) mt (pe_fld (pv 0) rfl)))
      (pss_cons (ps_if (pt_cmpR op_gt (pe_callB call_len_seq (by rfl) ml PySem.boot_len (pa_cons (pv 2) pa_nil)) (pe_glob (v := .int 5) (by rfl) g5 ⟨_, rfl⟩) (nomark _)) (pss_one (ps_ret (pe_lst (pa_cons (pe_glob (v := .int (-28)) (by rfl) g28 ⟨_, rfl⟩) pa_nil)))) pss_nil)
      (pss_cons (ps_setLc (i := 3) (own := [("kind", 4)]) (g := gName 4) (te := tVar 4) (tt := tTest (tOp (rInD K) (tVar 2) (tMeth C "brought" (spBrought P w K C) [] noX (tVar 0) (tCons (tVar 4) (tCons (tCB (rLen K) (tCons (tVar 2) tNil)) tNil))))) rfl scBy.nd rfl rfl (sw_true rfl rfl rfl (by decide +kernel))
        (pi_list (pe_call G2 hr1 (by rfl) D2.gl D2.kp D2.bi .nil pass0 (pa_cons (pv 1) pa_nil))) (blkOk_by (N := ["self", "steps", "held", "bringing", "kind"]) (sc := defScope sBy) (by decide +kernel))
        (fun _ _ _ _ _ => pg_name (i := 4) scBy.nd rfl (Or.inl rfl))
        (fun _ _ _ _ _ => pts_one (pt_cmpR (op_inD hu) (pv 2) (pe_meth (pv 0) T.cl M1 G1 hr b1 .nil pass0 (pa_cons (pv 4) (pa_cons (pe_callB (r := rLen K) call_len_seq (by rfl) ml PySem.boot_len (pa_cons (pv 2) pa_nil)) pa_nil))) (by rfl)))
        (fun _ _ _ _ _ => pv 4))
      (pss_cons (ps_if (pt_cmpR op_eq (pe_callB call_len_seq (by rfl) ml PySem.boot_len (pa_cons (pv 3) pa_nil)) pe_int (nomark _)) (pss_one (ps_ret (pe_lst (pa_cons pe_int pa_nil)))) pss_nil)
      (pss_one (ps_ret (pe_op op_cat (pe_lst (pa_cons (pe_callB call_len_seq (by rfl) ml PySem.boot_len (pa_cons (pv 3) pa_nil)) pa_nil)) (pe_callTy call_list_of (by rfl) mli (by decide +kernel) (pa_cons (pe_ix ix_list (pv 3) pe_int (fun _ _ => rfl)) pa_nil))))))))), ?_⟩
    obtain ⟨dx, kl, e1, e2, e3⟩ := hH.ins
    have hpos := ht.1.pos
    have bad : ¬ (1 ≤ k ∧ k ≤ 5) → ∀ p, H p = none → Q (.ref p) (upd H p (.lst [.int (-22)])) := fun hno p np => by
      rw [if_neg hno] at q
      exact q _ p ((hH.same (same_new np)).more (by omega)) (KeepH.of (same_new np)) np upd_same
    refine ⟨_, rfl, _, _, rfl, rfl, _, rfl, ?_⟩
    refine ifB (fun h => ?_) (fun h => ?_)
    · have h1 : (1 : Int) ≤ (k : Int) := of_decide_eq_true h
      refine ⟨_, _, rfl, rfl, _, rfl, ?_⟩
      by_cases h5 : k ≤ 5
      · rw [show decide ((k : Int) ≤ 5) = true from decide_eq_true (by omega)]
        refine ifF ?_
        rw [if_pos (show 1 ≤ k ∧ k ≤ 5 by omega)] at q
        refine ⟨_, rfl, x, C, dx, _, _, rfl, e1, T.cl, T.nK, hF_kind kl kd, kTup_of (.inl (SqL.of e2)) fun H1 hd s1 hhd => ?_⟩
        refine ⟨_, rfl, hd, _, rfl, .inr (.inl (.inl hhd)), _, _, rfl, rfl, _, rfl, ?_⟩
        rw [List.length_map, List.length_map]
        refine ifB (fun h => ?_) (fun h => ?_)
        · have h6 : (5 : Int) < (t.length : Nat) := of_decide_eq_true h
          rw [if_pos (by omega)] at q
          refine ⟨by show 1 ≤ sizeLine; decide, fun p np => ?_⟩
          have s2 := s1.trans (same_new (o := .lst [.int (-28)]) np)
          exact q _ p ((hH.same s2).more (by omega)) (KeepH.of s2) (none_of s1 np) upd_same
        · have h6 : ¬ (5 : Int) < (t.length : Nat) := of_decide_eq_false h
          rw [if_neg (by omega)] at q
          refine ⟨_, rfl, k, rfl, by omega, h5, fun H2 p ts s2 np hp hts => ?_⟩
          have s12 := s1.trans s2
          have hH2 := hH.same s12
          have hA24 := (all_types k (by omega) h5).2
          refine ⟨p, rfl, ⟨_, SqL.of hp⟩, fun D nD => ?_⟩
          refine lc_list (K := K) (a := p) (xs := ts.map V.ref) (fun i H' => Hold P w C H' x kd (fun b => T' b ∨ b = D) t (n + i) ∧ KeepH x kd H2 H' ∧ ∃ bs, H' D = some (.lst (bs.map V.ref)) ∧ Tups H' bs (((Su184.all k).take i).filter fun u => Su184.brings u t)) ?_ ?_ ?_ ?_
          · exact ⟨(hH2.less fun b hb => hb.imp id fun z => by rw [z]; exact nD).same (same_new nD), KeepH.of (same_new nD), [], upd_same, Tups.nil _⟩
          · rintro i H' _ ⟨hH', kk, _⟩
            exact SqL.of (kk.lst hH2 _ _ hp)
          · rintro i v H' hx ⟨hH', kk, bs, hD, hB⟩
            obtain ⟨wj, u, rfl, hj1, hj2, hwj⟩ := hts.get hx
            have hw' := kk.tup hH2 _ _ hwj
            have hh' := kk.tup hH2 _ _ (s2 _ _ hhd)
            obtain ⟨hu1, hu2⟩ := all_isT (by omega) h5 (List.mem_of_getElem? hj2)
            have hi : i < 24 := by
              have := (List.getElem?_eq_some_iff.1 hj2).1
              omega
            obtain ⟨dx', kl', f1, f2, f3⟩ := hH'.ins
            have live : Live H' (fun b => T' b ∨ b = D) := fun b hb => by
              rcases hb with hb | hb
              · exact (hT.keep ((KeepH.of s12).trans kk) hH') b hb
              · exact ⟨_, by rw [hb]; exact hD⟩
            refine ⟨rfl, _, rfl, _, rfl, x, dx', _, rfl, f1, hF_no kl' kd (by decide +kernel) (by decide +kernel), _, rfl, _, rfl, hd, _, rfl, .inr (.inl (.inl hh')), x, kd, wj, (fun b => T' b ∨ b = D), t, u, n + i, t.length, by simp, hH', live, by omega, .inr hw', hu1, by omega, by omega, by omega, fun H3 p3 ts3 hH3 k3 hp3 hts3 => ?_⟩
            have hD3 := k3.lst hH' _ _ hD
            refine ⟨dTup t, (Su184.types u t.length).map dTup, .tup (.inl (.inl (k3.tup hH' _ _ hh'))) (dp_ints K H3 _), .lst (SqL.of hp3) (dp_tups hts3), shaped_tup t, shaped_tups _, _, rfl, ?_⟩
            rw [any_tup, show (Su184.types u t.length).contains t = Su184.brings u t from rfl]
            refine ifB (fun h => ?_) (fun h => ?_)
            · refine ⟨_, rfl, _, hD3, ?_, hH3.put (.inr rfl) hD3, (kk.trans k3).at nD, bs ++ [wj], ?_, ?_⟩
              · apply small
                rw [List.length_map, hB.1]
                have h1 := List.length_filter_le (fun u => Su184.brings u t) ((Su184.all k).take i)
                rw [List.length_take] at h1
                omega
              · rw [upd_same, List.map_append]; rfl
              · rw [take_one hj2, List.filter_append, List.filter_cons_of_pos (p := fun u => Su184.brings u t) h, List.filter_nil]
                exact ((hB.keep (k3.tup hH')).app (Tups.one (k3.tup hH' _ _ hw'))).keep (keep_put hD3 (by intro zs z; cases z))
            · refine ⟨hH3, kk.trans k3, bs, hD3, ?_⟩
              rw [take_one hj2, List.filter_append, List.filter_cons_of_neg (p := fun u => Su184.brings u t) (by rw [h]; exact Bool.false_ne_true), List.filter_nil, List.append_nil]
              exact hB.keep (k3.tup hH')
          · rintro H' ⟨hH', kk, bs, hD, hB⟩
            rw [List.length_map, hts.1] at hH'
            rw [List.length_map, hts.1, List.take_length] at hB
            have hfin : ∀ {H4 : Hp}, Same H' H4 → Hold P w C H4 x kd T' t (n + 24) := fun s4 => ((hH'.less fun b hb => .inl (.inl hb)).same s4).more (by omega)
            have kfin : ∀ {H4 : Hp}, Same H' H4 → KeepH x kd H H4 := fun s4 => ((KeepH.of s12).trans kk).trans (KeepH.of s4)
            have fresh : ∀ {p}, H' p = none → H p = none := fun np => hH'.fresh ((KeepH.of s12).trans kk) np
            refine ⟨_, rfl, D, _, rfl, .inl (SqL.of hD), rfl, _, rfl, ?_⟩
            have hB' : Tups H' bs (byL t k) := hB
            rw [List.length_map, hB'.1]
            refine ifB (fun h => ?_) (fun h => ?_)
            · have h0 : ((byL t k).length : Int) = 0 := V.int.inj (of_decide_eq_true h)
              have h0 : byL t k = [] := List.length_eq_zero_iff.1 (by omega)
              refine ⟨by show 1 ≤ sizeLine; decide, fun p3 np3 => ?_⟩
              refine q _ p3 (hfin (same_new np3)) (kfin (same_new np3)) (fresh np3) ?_
              rw [upd_same, h0]; rfl
            · have h0 : (byL t k).length ≠ 0 := fun e => of_decide_eq_false h (by rw [e]; rfl)
              have hlen : (byL t k).length ≤ 24 := Nat.le_trans (List.length_filter_le _ _) hA24
              have hin : ∀ u ∈ byL t k, u.length = k := fun u hu => (all_isT (by omega) h5 (List.mem_filter.1 hu).1).2
              generalize byL t k = L at *
              match L, bs, hB', h0 with
              | u0 :: L, b0 :: bs, hB', _ =>
                have hb0 : H' b0 = some (.tup (ivs (nz u0))) := hB'.2 0 _ _ rfl rfl
                have hu0 := hin u0 (by simp)
                refine ⟨_, rfl, D, _, rfl, .inl (SqL.of hD), by show 1 ≤ sizeLine; decide, fun p1 np1 => ?_⟩
                rw [List.length_map, hB'.1]
                have s3 : Same H' (upd H' p1 (.lst [.int ((u0 :: L).length : Nat)])) := same_new np1
                refine ⟨_, rfl, D, _, _, V.ref b0, rfl, rfl, SqL.of (s3 _ _ hD), atI_nat (j := 0) rfl, _, _, rfl, .inr (tSq s3 hb0), fun p2 np2 => ?_⟩
                have s4 : Same (upd H' p1 (.lst [.int ((u0 :: L).length : Nat)])) (upd (upd H' p1 (.lst [.int ((u0 :: L).length : Nat)])) p2 (.lst (ivs (nz u0)))) := same_new np2
                refine ⟨p1, p2, _, _, rfl, rfl, s4 _ _ upd_same, upd_same, ?_, fun p3 np3 => ?_⟩
                · refine Nat.le_of_lt (small ?_)
                  simp; omega
                · have s5 := (s3.trans s4).trans (same_new (o := .lst ([V.int ((u0 :: L).length : Nat)] ++ ivs (nz u0))) np3)
                  refine q _ p3 (hfin s5) (kfin s5) (fresh (none_of (s3.trans s4) np3)) ?_
                  rw [upd_same]; rfl
      · rw [show decide ((k : Int) ≤ 5) = false from decide_eq_false (by omega)]
        refine ifT ?_
        exact ⟨by show 1 ≤ sizeLine; decide, fun p np => bad (by omega) p np⟩
    · have h1 : ¬ (1 : Int) ≤ (k : Int) := of_decide_eq_false h
      refine ⟨_, rfl, ?_⟩
      refine ifT ?_
      exact ⟨by show 1 ≤ sizeLine; decide, fun p np => bad (by omega) p np⟩
abbrev lone (k : Nat) : List (List Nat) := (Su184.all k).filter fun u => (Su184.types u k).length == 1
def aFirst : Hp → (Addr → Prop) → List V → (List Nat × List Int) → List Nat → Prop := fun _ _ vs r t => ∃ k : Nat, vs = [.int k] ∧ r = (t, if 1 ≤ k ∧ k ≤ 5 then [((lone k).length : Int), ((Su184.all k).length : Int)] else [-22])
theorem ok_mfirst {f f1 f2 : Addr} {fd d1 d2 : FuncData} (F : Fun K "first" "Holder.first" sFirst f fd) (T : Txt K mg C) (G1 : FnOk P w K mg base CX0 4 f1 d1 ["self", "kind", "steps"] (spBrought P w K C)) (M1 : Meth K C "brought" f1) (b1 : Binds K d1 ["self", "kind", "steps"] [])
    (G2 : FnOk P w K mg base CX0 1 f2 d2 ["steps"] spKo) (D2 : Def1 K mg "kinds_of" f2 d2 ["steps"]) (ml : mg "len" = none) (g5 : GInt mg "MOST_COMPARED" 5) (g22 : GInt mg "NOT_AS_TOLD" (-22)) : FnOk P w K mg base CX0 5 f fd ["self", "steps"] (spM P w C 24 aFirst) := by
  obtain ⟨t5, g5⟩ := g5
  obtain ⟨t22, g22⟩ := g22
  refine F.ok scFi (fun vs H Q E h => ?_) (fun cdv A outer s H vs Q E hr h => ?_)
  · obtain ⟨x, kd, T', t, n, more, r, rfl, _, _, _, ⟨k, rfl, _⟩, _⟩ := h
    rfl
  · obtain ⟨x, kd, T', t, n, more, r, rfl, hH, hT, hn, ⟨k, rfl, rfl⟩, q⟩ := h
    have hr1 := hr.mono (show 1 ≤ 4 by decide)
    refine ⟨_, pss_cons (ps_if (pt_not (pt_chain op_le op_le pe_int (pv 1) (pe_glob (v := .int 5) (by rfl) g5 ⟨_, rfl⟩))) (pss_one (ps_ret (pe_lst (pa_cons (pe_glob (v := .int (-22)) (by rfl) g22 ⟨_, rfl⟩) pa_nil)))) pss_nil)
      (pss_cons (ps_set (i := 2) scFi.nd rfl (Or.inl rfl) (pe_call G2 hr1 (by rfl) D2.gl D2.kp D2.bi .nil pass0 (pa_cons (pv 1) pa_nil)))
      (pss_cons (ps_setLc (i := 3) (own := [("kind", 4)]) (g := gName 4) (te := tVar 4) (tt := tTest (tOp rEq (tCB (rLen K) (tCons (tMeth C "brought" (spBrought P w K C) [] noX (tVar 0) (tCons (tVar 4) (tCons (tVar 1) tNil))) tNil)) (tC (.int 1)))) rfl scFi.nd rfl rfl (sw_true rfl rfl rfl (by decide +kernel))
        (pi_list (pv 2)) (blkOk_by (N := ["self", "steps", "kinds", "least", "kind"]) (sc := defScope sFirst) (by decide +kernel))
        (fun _ _ _ _ _ => pg_name (i := 4) scFi.nd rfl (Or.inl rfl))
        (fun _ _ _ _ _ => pts_one (pt_cmpR op_eq (pe_callB (r := rLen K) call_len_seq (by rfl) ml PySem.boot_len (pa_cons (pe_meth (pv 0) T.cl M1 G1 hr b1 .nil pass0 (pa_cons (pv 4) (pa_cons (pv 1) pa_nil))) pa_nil)) pe_int (nomark _)))
        (fun _ _ _ _ _ => pv 4))
      (pss_one (ps_ret (pe_lst (pa_cons (pe_callB call_len_seq (by rfl) ml PySem.boot_len (pa_cons (pv 3) pa_nil)) (pa_cons (pe_callB call_len_seq (by rfl) ml PySem.boot_len (pa_cons (pv 2) pa_nil)) pa_nil))))))), ?_⟩
    have bad : ¬ (1 ≤ k ∧ k ≤ 5) → ∀ p, H p = none → Q (.ref p) (upd H p (.lst [.int (-22)])) := fun hno p np => by
      rw [if_neg hno] at q
      exact q _ p ((hH.same (same_new np)).more (by omega)) (KeepH.of (same_new np)) np upd_same
    refine ⟨_, rfl, _, _, rfl, rfl, _, rfl, ?_⟩
    refine ifB (fun h => ?_) (fun h => ?_)
    · have h1 : (1 : Int) ≤ (k : Int) := of_decide_eq_true h
      refine ⟨_, _, rfl, rfl, _, rfl, ?_⟩
      by_cases h5 : k ≤ 5
      · rw [show decide ((k : Int) ≤ 5) = true from decide_eq_true (by omega)]
        refine ifF ?_
        rw [if_pos (show 1 ≤ k ∧ k ≤ 5 by omega)] at q
        refine ⟨_, rfl, k, rfl, by omega, h5, fun H2 p ts s2 np hp hts => ?_⟩
        have hH2 := hH.same s2
        have hA24 := (all_types k (by omega) h5).2
        refine ⟨_, rfl, p, rfl, ⟨_, SqL.of hp⟩, fun D nD => ?_⟩
        refine lc_list (K := K) (a := p) (xs := ts.map V.ref) (fun i H' => Hold P w C H' x kd (fun b => T' b ∨ b = D) t (n + i) ∧ KeepH x kd H2 H' ∧ ∃ bs : List V, H' D = some (.lst bs) ∧ bs.length = (((Su184.all k).take i).filter fun u => (Su184.types u k).length == 1).length) ?_ ?_ ?_ ?_
        · exact ⟨(hH2.less fun b hb => hb.imp id fun z => by rw [z]; exact nD).same (same_new nD), KeepH.of (same_new nD), [], upd_same, rfl⟩
        · rintro i H' _ ⟨hH', kk, _⟩
          exact SqL.of (kk.lst hH2 _ _ hp)
        · rintro i v H' hx ⟨hH', kk, bs, hD, hB⟩
          obtain ⟨wj, u, rfl, hj1, hj2, hwj⟩ := hts.get hx
          have hw' := kk.tup hH2 _ _ hwj
          obtain ⟨hu1, hu2⟩ := all_isT (by omega) h5 (List.mem_of_getElem? hj2)
          have hi : i < 24 := by
            have := (List.getElem?_eq_some_iff.1 hj2).1
            omega
          obtain ⟨dx', kl', f1, f2, f3⟩ := hH'.ins
          have live : Live H' (fun b => T' b ∨ b = D) := fun b hb => by
            rcases hb with hb | hb
            · exact (hT.keep ((KeepH.of s2).trans kk) hH') b hb
            · exact ⟨_, by rw [hb]; exact hD⟩
          refine ⟨rfl, _, rfl, x, dx', _, rfl, f1, hF_no kl' kd (by decide +kernel) (by decide +kernel), _, rfl, _, rfl, x, kd, wj, (fun b => T' b ∨ b = D), t, u, n + i, k, rfl, hH', live, by omega, .inr hw', hu1, by omega, by omega, by omega, fun H3 p3 ts3 hH3 k3 hp3 hts3 => ?_⟩
          have hD3 := k3.lst hH' _ _ hD
          refine ⟨p3, _, rfl, .inl (SqL.of hp3), rfl, _, rfl, ?_⟩
          rw [List.length_map, hts3.1]
          refine ifB (fun h => ?_) (fun h => ?_)
          · have h2 : ((Su184.types u k).length : Int) = 1 := V.int.inj (of_decide_eq_true h)
            have h2 : ((Su184.types u k).length == 1) = true := beq_iff_eq.2 (by omega)
            refine ⟨_, rfl, _, hD3, ?_, hH3.put (.inr rfl) hD3, (kk.trans k3).at nD, bs ++ [.ref wj], upd_same, ?_⟩
            · apply small
              rw [hB]
              have h1 := List.length_filter_le (fun u => (Su184.types u k).length == 1) ((Su184.all k).take i)
              rw [List.length_take] at h1
              omega
            · rw [take_one hj2, List.filter_append, List.filter_cons_of_pos (p := fun u => (Su184.types u k).length == 1) h2, List.filter_nil, List.length_append, List.length_append, hB]; rfl
          · have h2 : ¬ ((Su184.types u k).length == 1) = true := fun e => of_decide_eq_false h (by rw [beq_iff_eq.1 e]; rfl)
            refine ⟨hH3, kk.trans k3, bs, hD3, ?_⟩
            rw [take_one hj2, List.filter_append, List.filter_cons_of_neg (p := fun u => (Su184.types u k).length == 1) h2, List.filter_nil, List.append_nil]
            exact hB
        · rintro H' ⟨hH', kk, bs, hD, hB⟩
          rw [List.length_map, hts.1] at hH'
          rw [List.length_map, hts.1, List.take_length] at hB
          have kall := (KeepH.of s2).trans kk
          refine ⟨_, rfl, D, _, rfl, .inl (SqL.of hD), _, rfl, p, _, rfl, .inl (SqL.of (kk.lst hH2 _ _ hp)), by show 2 ≤ sizeLine; decide, fun p3 np3 => ?_⟩
          refine q _ p3 (((hH'.less fun b hb => .inl (.inl hb)).same (same_new np3)).more (by omega)) (kall.trans (KeepH.of (same_new np3))) (hH'.fresh kall np3) ?_
          rw [upd_same, List.length_map, hts.1, hB]; rfl
      · rw [show decide ((k : Int) ≤ 5) = false from decide_eq_false (by omega)]
        refine ifT ?_
        exact ⟨by show 1 ≤ sizeLine; decide, fun p np => bad (by omega) p np⟩
    · have h1 : ¬ (1 : Int) ≤ (k : Int) := of_decide_eq_false h
      refine ⟨_, rfl, ?_⟩
      refine ifT ?_
      exact ⟨by show 1 ≤ sizeLine; decide, fun p np => bad (by omega) p np⟩
end
end Rt

set_option Elab.async false
namespace Rt
/-! ### the specification, call by call -/
def callT (p : Nat) (a u : List Nat) : Su184.Call := match p with
  | 0 => .take u
  | 1 => .line
  | 2 => .turn
  | 3 => .double
  | 4 => .brings u
  | 5 => .types (a.getD 0 0)
  | 6 => .nth (a.getD 0 0) (a.getD 1 0)
  | 7 => .steps
  | 8 => .alone
  | 9 => .by_ (a.getD 0 0)
  | 10 => .rise (a.getD 0 0)
  | _ => .state
abbrev toN (l : List Int) : List Nat := l.map Int.toNat
theorem len0 {α : Type} {l : List α} (h : l.length = 0) : l = [] := List.length_eq_zero_iff.1 h
theorem len1 {α : Type} {l : List α} (h : l.length = 1) : ∃ a, l = [a] := by
  cases l with
  | nil => simp at h
  | cons a l => cases l with
    | nil => exact ⟨a, rfl⟩
    | cons _ _ => simp at h
theorem len2 {α : Type} {l : List α} (h : l.length = 2) : ∃ a b, l = [a, b] := by
  cases l with
  | nil => simp at h
  | cons a l =>
    obtain ⟨b, rfl⟩ := len1 (l := l) (by simpa using h)
    exact ⟨a, b, rfl⟩
theorem callOf_whole {q : Nat} {a : List Int} {xs : List (List Int)} (hq : q < 12) (hn : NUMS[q]? = some (a.length : Int)) (hk : (q = 0 ∨ q = 4) ∧ xs.length = 1 ∨ ¬ (q = 0 ∨ q = 4) ∧ xs.length = 0) :
    Su184Neutral.callOf ((PySu184.whole (((q : Int) :: a) :: xs)).headD []) = some (callT q (toN a) (toN (xs.headD []))) := by
  match q, hq with
  | 0, _ =>
    have ha : a.length = 0 := by simp at hn; omega
    obtain ⟨r, rfl⟩ := len1 (show xs.length = 1 by omega)
    rw [len0 ha]; rfl
  | 1, _ =>
    have ha : a.length = 0 := by simp at hn; omega
    rw [len0 ha, len0 (show xs.length = 0 by omega)]; rfl
  | 2, _ =>
    have ha : a.length = 0 := by simp at hn; omega
    rw [len0 ha, len0 (show xs.length = 0 by omega)]; rfl
  | 3, _ =>
    have ha : a.length = 0 := by simp at hn; omega
    rw [len0 ha, len0 (show xs.length = 0 by omega)]; rfl
  | 4, _ =>
    have ha : a.length = 0 := by simp at hn; omega
    obtain ⟨r, rfl⟩ := len1 (show xs.length = 1 by omega)
    rw [len0 ha]; rfl
  | 5, _ =>
    have ha : a.length = 1 := by simp at hn; omega
    obtain ⟨y, rfl⟩ := len1 ha
    rw [len0 (show xs.length = 0 by omega)]; rfl
  | 6, _ =>
    have ha : a.length = 2 := by simp at hn; omega
    obtain ⟨y, z, rfl⟩ := len2 ha
    rw [len0 (show xs.length = 0 by omega)]; rfl
  | 7, _ =>
    have ha : a.length = 0 := by simp at hn; omega
    rw [len0 ha, len0 (show xs.length = 0 by omega)]; rfl
  | 8, _ =>
    have ha : a.length = 0 := by simp at hn; omega
    rw [len0 ha, len0 (show xs.length = 0 by omega)]; rfl
  | 9, _ =>
    have ha : a.length = 1 := by simp at hn; omega
    obtain ⟨y, rfl⟩ := len1 ha
    rw [len0 (show xs.length = 0 by omega)]; rfl
  | 10, _ =>
    have ha : a.length = 1 := by simp at hn; omega
    obtain ⟨y, rfl⟩ := len1 ha
    rw [len0 (show xs.length = 0 by omega)]; rfl
  | 11, _ =>
    have ha : a.length = 0 := by simp at hn; omega
    rw [len0 ha, len0 (show xs.length = 0 by omega)]; rfl
  | n + 12, h => omega
/-- the state: no type is the empty one -/
def toS (t : List Nat) : Option (List Nat) := if t = [] then none else some t
/-- one call: the type then, and what is answered -/
def turnM (t : List Nat) (p : Nat) (a u : List Nat) : List Nat × List Int :=
  if t = [] then
    (if p = 0 then (if Su184.isType u = true ∧ u.length ≤ 7 then (u, [(u.length : Int)]) else ([], [-22])) else ([], [-11]))
  else ((Su184.does t (callT p a u)).1, (Su184.does t (callT p a u)).2.value :: Su184Neutral.outs (Su184.does t (callT p a u)).2.out)
theorem take_does (t u : List Nat) : Su184.does t (.take u) = if Su184.isType u = true ∧ u.length ≤ 7 then (u, Su184.num u.length []) else (t, Su184.no (-22)) := by
  show (if Su184.isType u = false ∨ Su184.PLACES < u.length then (t, Su184.no (-22)) else (u, Su184.num u.length [])) = _
  by_cases h : Su184.isType u = true ∧ u.length ≤ 7
  · rw [if_pos h, if_neg]
    rintro (h2 | h2)
    · rw [h.1] at h2; cases h2
    · exact absurd h.2 (Nat.not_le.2 h2)
  · rw [if_neg h, if_pos]
    by_cases h2 : Su184.isType u = true
    · exact .inr (Nat.not_le.1 fun z => h ⟨h2, z⟩)
    · exact .inl (by simpa using h2)
/-- a type is held, or none -/
abbrev StT (t : List Nat) : Prop := t = [] ∨ (IsT t ∧ t.length ≤ 7)
theorem does_ok {t : List Nat} (ht : IsT t ∧ t.length ≤ 7) (c : Su184.Call) : IsT (Su184.does t c).1 ∧ (Su184.does t c).1.length ≤ 7 := by
  cases c with
  | take u =>
    rw [take_does]
    by_cases h : Su184.isType u = true ∧ u.length ≤ 7
    · rw [if_pos h]; exact ⟨(isType_iff u).1 h.1, h.2⟩
    · rw [if_neg h]; exact ht
  | line => exact ht
  | turn => exact ⟨turned_isT ht.1, by show (Su184.turned t).length ≤ 7; rw [turned_len ht.1]; exact ht.2⟩
  | double =>
    show IsT (if 3 < t.length then (t, Su184.no (-28)) else (Su184.doubled t, Su184.list (Su184.doubled t))).1 ∧ (if 3 < t.length then (t, Su184.no (-28)) else (Su184.doubled t, Su184.list (Su184.doubled t))).1.length ≤ 7
    by_cases h : 3 < t.length
    · rw [if_pos h]; exact ht
    · rw [if_neg h]; exact ⟨doubled_isT ht.1, by show (Su184.doubled t).length ≤ 7; rw [doubled_len]; omega⟩
  | brings u =>
    have e : (Su184.does t (.brings u)).1 = t := by simp only [Su184.does]; split <;> rfl
    rw [e]; exact ht
  | types k =>
    have e : (Su184.does t (.types k)).1 = t := by simp only [Su184.does]; split <;> rfl
    rw [e]; exact ht
  | nth k j =>
    have e : (Su184.does t (.nth k j)).1 = t := by
      simp only [Su184.does]
      split
      · rfl
      · split <;> rfl
    rw [e]; exact ht
  | steps => exact ht
  | alone =>
    have e : (Su184.does t .alone).1 = t := by simp only [Su184.does]; split <;> rfl
    rw [e]; exact ht
  | by_ k =>
    have e : (Su184.does t (.by_ k)).1 = t := by
      simp only [Su184.does]
      split
      · rfl
      · split <;> rfl
    rw [e]; exact ht
  | rise k =>
    have e : (Su184.does t (.rise k)).1 = t := by simp only [Su184.does]; split <;> rfl
    rw [e]; exact ht
  | state => exact ht
theorem isT_ne {t : List Nat} (h : IsT t) : t ≠ [] := by
  intro e
  have := h.pos
  rw [e] at this
  simp at this
theorem turnM_ok {t : List Nat} (ht : StT t) (p : Nat) (a u : List Nat) : StT (turnM t p a u).1 := by
  unfold turnM
  rcases ht with rfl | ht
  · rw [if_pos rfl]
    by_cases hp : p = 0
    · rw [if_pos hp]
      by_cases h : Su184.isType u = true ∧ u.length ≤ 7
      · rw [if_pos h]; exact .inr ⟨(isType_iff u).1 h.1, h.2⟩
      · rw [if_neg h]; exact .inl rfl
    · rw [if_neg hp]; exact .inl rfl
  · rw [if_neg (isT_ne ht.1)]
    exact .inr (does_ok ht _)
theorem step_turnM {t : List Nat} (ht : StT t) {q : Nat} {a : List Int} {xs : List (List Int)} (hq : q < 12) (hn : NUMS[q]? = some (a.length : Int)) (hk : (q = 0 ∨ q = 4) ∧ xs.length = 1 ∨ ¬ (q = 0 ∨ q = 4) ∧ xs.length = 0) :
    Su184Neutral.step (toS t) ((PySu184.whole (((q : Int) :: a) :: xs)).headD []) = (toS (turnM t q (toN a) (toN (xs.headD []))).1, (turnM t q (toN a) (toN (xs.headD []))).2) := by
  unfold Su184Neutral.step
  rw [callOf_whole hq hn hk]
  generalize toN (xs.headD []) = u
  generalize toN a = b
  rcases ht with rfl | ht
  · unfold turnM
    rw [if_pos rfl]
    by_cases h0 : q = 0
    · subst h0
      rw [if_pos rfl]
      show ((Su184.step none (.take u)).1, (Su184.step none (.take u)).2.value :: Su184Neutral.outs (Su184.step none (.take u)).2.out) = _
      have e : Su184.step none (.take u) = (if (Su184.does [0] (.take u)).2.value < 0 then none else some (Su184.does [0] (.take u)).1, (Su184.does [0] (.take u)).2) := rfl
      rw [e, take_does]
      by_cases h : Su184.isType u = true ∧ u.length ≤ 7
      · rw [if_pos h, if_pos h]
        have hne := isT_ne ((isType_iff u).1 h.1)
        have hv : ¬ (Su184.num u.length []).value < 0 := by show ¬ Int.ofNat u.length < 0; exact Int.not_lt.2 (Int.natCast_nonneg _)
        rw [if_neg hv]
        unfold toS
        rw [if_neg hne]; rfl
      · rw [if_neg h, if_neg h]; rfl
    · rw [if_neg h0]
      match q, h0, hq with
      | 0, h0, _ => exact absurd rfl h0
      | 1, _, _ => rfl
      | 2, _, _ => rfl
      | 3, _, _ => rfl
      | 4, _, _ => rfl
      | 5, _, _ => rfl
      | 6, _, _ => rfl
      | 7, _, _ => rfl
      | 8, _, _ => rfl
      | 9, _, _ => rfl
      | 10, _, _ => rfl
      | 11, _, _ => rfl
      | n + 12, _, h => omega
  · have hne := isT_ne ht.1
    have hd := does_ok ht (callT q b u)
    unfold turnM
    rw [if_neg hne]
    unfold toS
    rw [if_neg hne, if_neg (isT_ne hd.1)]; rfl
/-- the calls of a list, one behind another -/
def playM : List Nat → List (List (List Int)) → List Int
  | _, [] => []
  | t, c :: cs =>
    let r := turnM t ((c.headD []).headD 0).toNat (toN ((c.headD []).drop 1)) (toN (c.tail.headD []))
    ((r.2.length : Nat) : Int) :: r.2 ++ playM r.1 cs
theorem played_eq : ∀ (cs : List (List (List Int))) (t : List Nat), StT t → (∀ c ∈ cs, PyFlat.okCall PySu184.shape c) →
    PyFlat.told (PyFlat.played (fun s c => Su184Neutral.step s (c.headD [])) (toS t) (cs.map PySu184.whole)) = playM t cs
  | [], _, _, _ => rfl
  | c :: cs, t, ht, hok => by
    obtain ⟨p, a, xs, rfl, hsh⟩ := hok c (by simp)
    obtain ⟨q, rfl, hq, hn, hk⟩ := shape_some hsh
    have hs := step_turnM ht hq hn hk
    have ih := played_eq cs (turnM t q (toN a) (toN (xs.headD []))).1 (turnM_ok ht _ _ _) fun c hc => hok c (by simp [hc])
    show PyFlat.told ((Su184Neutral.step (toS t) ((PySu184.whole (((q : Int) :: a) :: xs)).headD [])).2 :: PyFlat.played (fun s c => Su184Neutral.step s (c.headD [])) (Su184Neutral.step (toS t) ((PySu184.whole (((q : Int) :: a) :: xs)).headD [])).1 (cs.map PySu184.whole)) = _
    rw [hs]
    show ((((turnM t q (toN a) (toN (xs.headD []))).2.length : Nat) : Int) :: (turnM t q (toN a) (toN (xs.headD []))).2) ++ PyFlat.told (PyFlat.played (fun s c => Su184Neutral.step s (c.headD [])) (toS (turnM t q (toN a) (toN (xs.headD []))).1) (cs.map PySu184.whole)) = _
    rw [ih]
    rfl
/-- **what is asked, opened** -/
theorem asked_open {l : List Int} (h : PySu184.answers_asked l = true) : ∃ cs : List (List (List Int)), l = PyFlat.put cs ∧ (∀ c ∈ cs, PyFlat.okCall PySu184.shape c) ∧ cs.length ≤ 400 ∧ PySu184.answers l = playM [] cs ∧
    (∀ c ∈ cs, PyInside.call PySu184.bound c = true) ∧ (PySu184.answers l).length ≤ 10000000 := by
  unfold PySu184.answers_asked at h
  cases e : PyFlat.calls PySu184.shape l.length l with
  | none => rw [e] at h; cases h
  | some raw =>
    rw [e] at h
    simp only [Bool.and_eq_true] at h
    obtain ⟨h1, h2⟩ := PyFlat.put_calls _ _ _ e
    refine ⟨raw, h1, h2, of_decide_eq_true h.1.1.1.2, ?_, ?_, of_decide_eq_true h.2⟩
    · unfold PySu184.answers PySu184.calls
      rw [e]
      exact played_eq raw [] (.inl rfl) h2
    · have := h.1.1.2
      unfold PyInside.calls at this
      exact List.all_eq_true.1 this
end Rt

set_option Elab.async false
namespace Rt
/-! ### each call, as the program tells it, against the specification -/
theorem turnM_take (t a u : List Nat) : turnM t 0 a u = if Su184.isType u = true ∧ u.length ≤ 7 then (u, [(u.length : Int)]) else (t, [-22]) := by
  unfold turnM
  by_cases ht : t = []
  · rw [if_pos ht, if_pos rfl, ht]
  · rw [if_neg ht]
    show ((Su184.does t (.take u)).1, (Su184.does t (.take u)).2.value :: Su184Neutral.outs (Su184.does t (.take u)).2.out) = _
    rw [take_does]
    by_cases h : Su184.isType u = true ∧ u.length ≤ 7
    · rw [if_pos h, if_pos h]; rfl
    · rw [if_neg h, if_neg h]; rfl
theorem turnM_none {p : Nat} (h : p ≠ 0) (a u : List Nat) : turnM [] p a u = ([], [-11]) := by
  unfold turnM
  rw [if_pos rfl, if_neg h]
theorem turnM_line {t : List Nat} (ht : t ≠ []) (a u : List Nat) : turnM t 1 a u = (t, (t.length : Int) :: nz (Su184.putOf t)) := by
  unfold turnM
  rw [if_neg ht, ← putOf_len t]; rfl
theorem turnM_turn {t : List Nat} (ht : t ≠ []) (a u : List Nat) : turnM t 2 a u = (Su184.turned t, ((Su184.turned t).length : Int) :: nz (Su184.turned t)) := by
  unfold turnM
  rw [if_neg ht]; rfl
theorem turnM_double {t : List Nat} (ht : t ≠ []) (a u : List Nat) : turnM t 3 a u = if 3 < t.length then (t, [-28]) else (Su184.doubled t, ((Su184.doubled t).length : Int) :: nz (Su184.doubled t)) := by
  unfold turnM
  rw [if_neg ht]
  simp only [callT, Su184.does]
  split <;> rfl
theorem turnM_brings {t : List Nat} (ht : t ≠ []) (a u : List Nat) : turnM t 4 a u = (t, if Su184.isType u = true ∧ u.length ≤ 6 then [if Su184.brings t u = true then 1 else 0] else [-22]) := by
  unfold turnM
  rw [if_neg ht]
  simp only [callT, Su184.does]
  by_cases h : Su184.isType u = true ∧ u.length ≤ 6
  · rw [if_pos h, if_neg]
    · unfold Su184.bit
      split <;> rfl
    · rintro (h2 | h2)
      · rw [h.1] at h2; cases h2
      · exact absurd h.2 (Nat.not_le.2 h2)
  · rw [if_neg h, if_pos]
    · rfl
    · by_cases h2 : Su184.isType u = true
      · exact .inr (Nat.not_le.1 fun z => h ⟨h2, z⟩)
      · exact .inl (by simpa using h2)
theorem okSteps_iff (k : Nat) : Su184.okSteps k = false ↔ ¬ (1 ≤ k ∧ k ≤ 6) := by
  unfold Su184.okSteps
  rw [Bool.and_eq_false_iff, decide_eq_false_iff_not, decide_eq_false_iff_not]
  show (¬ 0 < k ∨ ¬ k ≤ 6) ↔ _
  omega
theorem turnM_types {t : List Nat} (ht : t ≠ []) (j : Nat) (u : List Nat) : turnM t 5 [j] u = (t, if 1 ≤ j ∧ j ≤ 6 then [((Su184.types t j).length : Int)] else [-22]) := by
  unfold turnM
  rw [if_neg ht]
  simp only [callT, Su184.does, List.getD_cons_zero]
  by_cases h : 1 ≤ j ∧ j ≤ 6
  · rw [if_pos h, if_neg (fun z => (okSteps_iff _).1 z h)]; rfl
  · rw [if_neg h, if_pos ((okSteps_iff _).2 h)]; rfl
theorem turnM_nth {t : List Nat} (ht : IsT t) (j i : Nat) (u : List Nat) : turnM t 6 [j, i] u = (t, if 1 ≤ j ∧ j ≤ 6 then (if h : i < (Su184.types t j).length then (j : Int) :: nz (Su184.types t j)[i] else [-33]) else [-22]) := by
  unfold turnM
  rw [if_neg (isT_ne ht)]
  simp only [callT, Su184.does, List.getD_cons_zero, List.getD_cons_succ]
  by_cases h : 1 ≤ j ∧ j ≤ 6
  · rw [if_pos h, if_neg (fun z => (okSteps_iff _).1 z h)]
    by_cases hi : i < (Su184.types t j).length
    · rw [dif_pos hi, List.getElem?_eq_getElem hi]
      have hl := types_len ht (List.getElem_mem hi)
      show (t, (((Su184.types t j)[i].length : Nat) : Int) :: nz (Su184.types t j)[i]) = _
      rw [hl]
    · rw [dif_neg hi, List.getElem?_eq_none (by omega)]; rfl
  · rw [if_neg h, if_pos ((okSteps_iff _).2 h)]; rfl
theorem turnM_steps {t : List Nat} (ht : t ≠ []) (a u : List Nat) : turnM t 7 a u = (t, [(stepsTo t 6 : Int)]) := by
  unfold turnM
  rw [if_neg ht]; rfl
theorem turnM_alone {t : List Nat} (ht : IsT t) (a u : List Nat) : turnM t 8 a u = (t, if 6 < t.length then [-28] else [if (Su184.types t t.length).length = 1 then 1 else 0, ((Su184.types t t.length).length : Int)]) := by
  unfold turnM
  rw [if_neg (isT_ne ht)]
  simp only [callT, Su184.does]
  by_cases h : 6 < t.length
  · rw [if_pos h, if_pos (show Su184.STEPS < t.length from h)]; rfl
  · rw [if_neg h, if_neg (show ¬ Su184.STEPS < t.length from h), alone_iff ht]
    unfold Su184.bit
    by_cases h1 : (Su184.types t t.length).length = 1
    · rw [if_pos h1, if_pos (beq_iff_eq.2 h1)]; rfl
    · rw [if_neg h1, if_neg (fun z => h1 (beq_iff_eq.1 z))]; rfl
theorem turnM_by {t : List Nat} (ht : t ≠ []) (k : Nat) (u : List Nat) : turnM t 9 [k] u = (t, if 1 ≤ k ∧ k ≤ 5 then (if 5 < t.length then [-28] else ((byL t k).length : Int) :: nz ((byL t k).headD [])) else [-22]) := by
  unfold turnM
  rw [if_neg ht]
  simp only [callT, Su184.does, List.getD_cons_zero]
  by_cases h : 1 ≤ k ∧ k ≤ 5
  · rw [if_pos h, if_neg (show ¬ (k = 0 ∨ Su184.SMALL < k) by show ¬ (k = 0 ∨ 5 < k); omega)]
    by_cases h2 : 5 < t.length
    · rw [if_pos h2, if_pos (show Su184.SMALL < t.length from h2)]; rfl
    · rw [if_neg h2, if_neg (show ¬ Su184.SMALL < t.length from h2)]; rfl
  · rw [if_neg h, if_pos (show k = 0 ∨ Su184.SMALL < k by show k = 0 ∨ 5 < k; omega)]; rfl
theorem turnM_first {t : List Nat} (ht : t ≠ []) (k : Nat) (u : List Nat) : turnM t 10 [k] u = (t, if 1 ≤ k ∧ k ≤ 5 then [((lone k).length : Int), ((Su184.all k).length : Int)] else [-22]) := by
  unfold turnM
  rw [if_neg ht]
  simp only [callT, Su184.does, List.getD_cons_zero]
  by_cases h : 1 ≤ k ∧ k ≤ 5
  · rw [if_pos h, if_neg (show ¬ (k = 0 ∨ Su184.SMALL < k) by show ¬ (k = 0 ∨ 5 < k); omega)]; rfl
  · rw [if_neg h, if_pos (show k = 0 ∨ Su184.SMALL < k by show k = 0 ∨ 5 < k; omega)]; rfl
theorem turnM_show {t : List Nat} (ht : t ≠ []) (a u : List Nat) : turnM t 11 a u = (t, (t.length : Int) :: nz t) := by
  unfold turnM
  rw [if_neg ht]; rfl
end Rt

set_option Elab.async false
set_option maxRecDepth 100000
set_option maxHeartbeats 8000000
namespace Rt
open PySem PySem.Spec PyProof.Rows L2
abbrev sAnswerOf : Stmt := topS 36
theorem scAo : FnScope ["holder", "call", "numbers", "row"] ["holder", "call", "numbers", "row"] (defScope sAnswerOf) := ⟨rfl, rfl, rfl, by decide +kernel, rfl, by decide +kernel, by decide +kernel⟩
section
variable {P : Program} {w : World} {K : PySem.W.Frag} {mg : Str → Option Value} {base : Heap} {C : Addr}
/-- a method of the holder, as it is called -/
structure MethOk (P : Program) (w : World) (K : PySem.W.Frag) (mg : Str → Option Value) (base : Heap) (C : Addr) (m : Str) (ps : List Str) (sp : Sp) (f : Addr) (fd : FuncData) : Prop where
  fn : FnOk P w K mg base CX0 5 f fd ps sp
  at_ : Meth K C m f
  bi : Binds K fd ps []
def spAo (P : Program) (w : World) (C : Addr) : Sp := fun vs H Q _ => ∃ (x kd na ra : Addr) (T : Addr → Prop) (t a u : List Nat) (n p : Nat), vs = [.ref x, .int p, .ref na, .ref ra] ∧ Hold P w C H x kd T t n ∧ Live H T ∧ n ≤ 80000 ∧ StT t ∧ p < 12 ∧ NUMS[p]? = some (a.length : Int) ∧
  H na = some (.lst (ivs (nz a))) ∧ H ra = some (.lst (ivs (nz u))) ∧ ¬ T ra ∧ u.length ≤ 1000 ∧
  ∀ (H' : Hp) (q : Addr), Hold P w C H' x kd T (turnM t p a u).1 (n + 24) → KeepH x kd H H' → H q = none → H' q = some (.lst (ivs (turnM t p a u).2)) → Q (.ref q) H'
theorem ok_answerOf {f f0 f1 f2 f3 f4 f5 f6 f7 f8 f9 f10 f11 : Addr} {fd d0 d1 d2 d3 d4 d5 d6 d7 d8 d9 d10 d11 : FuncData} (F : Fun K "answer_of" "answer_of" sAnswerOf f fd) (T : Txt K mg C)
    (M0 : MethOk P w K mg base C "take" ["self", "row"] (spM P w C 1 aTake) f0 d0) (M1 : MethOk P w K mg base C "line" ["self"] (spM P w C 1 aLine) f1 d1) (M2 : MethOk P w K mg base C "turn" ["self"] (spM P w C 0 aTurn) f2 d2)
    (M3 : MethOk P w K mg base C "double" ["self"] (spM P w C 0 aDouble) f3 d3) (M4 : MethOk P w K mg base C "brings" ["self", "row"] (spM P w C 1 aBrings) f4 d4) (M5 : MethOk P w K mg base C "types" ["self", "steps"] (spM P w C 1 aTypes) f5 d5)
    (M6 : MethOk P w K mg base C "nth" ["self", "steps", "before"] (spM P w C 1 aNth) f6 d6) (M7 : MethOk P w K mg base C "steps" ["self"] (spM P w C 6 aSteps) f7 d7) (M8 : MethOk P w K mg base C "alone" ["self"] (spM P w C 1 aAlone) f8 d8)
    (M9 : MethOk P w K mg base C "by" ["self", "steps"] (spM P w C 24 aBy) f9 d9) (M10 : MethOk P w K mg base C "first" ["self", "steps"] (spM P w C 24 aFirst) f10 d10) (M11 : MethOk P w K mg base C "show" ["self"] (spM P w C 0 aShow) f11 d11)
    (ml : mg "len" = none) (g0 : GInt mg "TAKE" 0) (g1 : GInt mg "LINE" 1) (g2 : GInt mg "TURN" 2) (g3 : GInt mg "DOUBLE" 3) (g4 : GInt mg "BRINGS" 4) (g5 : GInt mg "TYPES" 5) (g6 : GInt mg "NTH" 6) (g7 : GInt mg "STEPS" 7) (g8 : GInt mg "ALONE" 8) (g9 : GInt mg "BY" 9) (g10 : GInt mg "FIRST" 10) (gN : GInt mg "NOTHING_TAKEN" (-11)) :
    FnOk P w K mg base CX0 6 f fd ["holder", "call", "numbers", "row"] (spAo P w C) := by
  obtain ⟨u0, g0⟩ := g0
  obtain ⟨u1, g1⟩ := g1
  obtain ⟨u2, g2⟩ := g2
  obtain ⟨u3, g3⟩ := g3
  obtain ⟨u4, g4⟩ := g4
  obtain ⟨u5, g5⟩ := g5
  obtain ⟨u6, g6⟩ := g6
  obtain ⟨u7, g7⟩ := g7
  obtain ⟨u8, g8⟩ := g8
  obtain ⟨u9, g9⟩ := g9
  obtain ⟨u10, g10⟩ := g10
  obtain ⟨uN, gN⟩ := gN
  refine F.ok scAo (fun vs H Q E h => ?_) (fun cdv A outer s H vs Q E hr h => ?_)
  · obtain ⟨x, kd, na, ra, T', t, a, u, n, p, rfl, _⟩ := h
    rfl
  · obtain ⟨x, kd, na, ra, T', t, a, u, n, p, rfl, hH, hT, hn, ht, hp12, hnum, hna, hra, hraT, hul, q⟩ := h
    refine ⟨_, pss_cons (ps_if (pt_cmpR op_eq (pv 1) (pe_glob (v := .int 0) (by rfl) g0 ⟨_, rfl⟩) (nomark _)) (pss_one (ps_ret (pe_meth (pv 0) T.cl M0.at_ M0.fn hr M0.bi .nil pass0 (pa_cons (pv 3) pa_nil)))) pss_nil)
      (pss_cons (ps_if (pt_cmpR op_eq (pe_callB call_len_seq (by rfl) ml PySem.boot_len (pa_cons (pe_fld (pv 0) rfl) pa_nil)) pe_int (nomark _)) (pss_one (ps_ret (pe_lst (pa_cons (pe_glob (v := .int (-11)) (by rfl) gN ⟨_, rfl⟩) pa_nil)))) pss_nil)
      (pss_cons (ps_if (pt_cmpR op_eq (pv 1) (pe_glob (v := .int 1) (by rfl) g1 ⟨_, rfl⟩) (nomark _)) (pss_one (ps_ret (pe_meth0 (pv 0) T.cl M1.at_ M1.fn hr M1.bi .nil pass0))) pss_nil)
      (pss_cons (ps_if (pt_cmpR op_eq (pv 1) (pe_glob (v := .int 2) (by rfl) g2 ⟨_, rfl⟩) (nomark _)) (pss_one (ps_ret (pe_meth0 (pv 0) T.cl M2.at_ M2.fn hr M2.bi .nil pass0))) pss_nil)
      (pss_cons (ps_if (pt_cmpR op_eq (pv 1) (pe_glob (v := .int 3) (by rfl) g3 ⟨_, rfl⟩) (nomark _)) (pss_one (ps_ret (pe_meth0 (pv 0) T.cl M3.at_ M3.fn hr M3.bi .nil pass0))) pss_nil)
      (pss_cons (ps_if (pt_cmpR op_eq (pv 1) (pe_glob (v := .int 4) (by rfl) g4 ⟨_, rfl⟩) (nomark _)) (pss_one (ps_ret (pe_meth (pv 0) T.cl M4.at_ M4.fn hr M4.bi .nil pass0 (pa_cons (pv 3) pa_nil)))) pss_nil)
      (pss_cons (ps_if (pt_cmpR op_eq (pv 1) (pe_glob (v := .int 5) (by rfl) g5 ⟨_, rfl⟩) (nomark _)) (pss_one (ps_ret (pe_meth (pv 0) T.cl M5.at_ M5.fn hr M5.bi .nil pass0 (pa_cons (pe_ix ix_list (pv 2) pe_int (fun _ _ => rfl)) pa_nil)))) pss_nil)
      (pss_cons (ps_if (pt_cmpR op_eq (pv 1) (pe_glob (v := .int 6) (by rfl) g6 ⟨_, rfl⟩) (nomark _)) (pss_one (ps_ret (pe_meth (pv 0) T.cl M6.at_ M6.fn hr M6.bi .nil pass0 (pa_cons (pe_ix ix_list (pv 2) pe_int (fun _ _ => rfl)) (pa_cons (pe_ix ix_list (pv 2) pe_int (fun _ _ => rfl)) pa_nil))))) pss_nil)
      (pss_cons (ps_if (pt_cmpR op_eq (pv 1) (pe_glob (v := .int 7) (by rfl) g7 ⟨_, rfl⟩) (nomark _)) (pss_one (ps_ret (pe_meth0 (pv 0) T.cl M7.at_ M7.fn hr M7.bi .nil pass0))) pss_nil)
      (pss_cons (ps_if (pt_cmpR op_eq (pv 1) (pe_glob (v := .int 8) (by rfl) g8 ⟨_, rfl⟩) (nomark _)) (pss_one (ps_ret (pe_meth0 (pv 0) T.cl M8.at_ M8.fn hr M8.bi .nil pass0))) pss_nil)
      (pss_cons (ps_if (pt_cmpR op_eq (pv 1) (pe_glob (v := .int 9) (by rfl) g9 ⟨_, rfl⟩) (nomark _)) (pss_one (ps_ret (pe_meth (pv 0) T.cl M9.at_ M9.fn hr M9.bi .nil pass0 (pa_cons (pe_ix ix_list (pv 2) pe_int (fun _ _ => rfl)) pa_nil)))) pss_nil)
      (pss_cons (ps_if (pt_cmpR op_eq (pv 1) (pe_glob (v := .int 10) (by rfl) g10 ⟨_, rfl⟩) (nomark _)) (pss_one (ps_ret (pe_meth (pv 0) T.cl M10.at_ M10.fn hr M10.bi .nil pass0 (pa_cons (pe_ix ix_list (pv 2) pe_int (fun _ _ => rfl)) pa_nil)))) pss_nil)
      (pss_one (ps_ret (pe_meth0 (pv 0) T.cl M11.at_ M11.fn hr M11.bi .nil pass0)))))))))))))), ?_⟩
    obtain ⟨dx, kl, e1, e2, e3⟩ := hH.ins
    -- the end of each call
    have fin : ∀ (g : Nat) (r : List Nat × List Int), g ≤ 24 → turnM t p a u = r → ∀ (H' : Hp) (y : Addr), Hold P w C H' x kd T' r.1 (n + g) → KeepH x kd H H' → H y = none → H' y = some (.lst (ivs r.2)) → Q (.ref y) H' := fun g r hg er H' y h1 h2 h3 h4 => by
      rw [er] at q
      exact q H' y (h1.more (by omega)) h2 h3 h4
    have num1 : ∀ {m : Nat}, p = m → NUMS[m]? = some 1 → ∃ j, a = [j] := fun e h => by
      rw [e, h] at hnum
      have : (1 : Int) = (a.length : Int) := Option.some.inj hnum
      exact len1 (by omega)
    have num2 : p = 6 → ∃ j i, a = [j, i] := fun e => by
      rw [e] at hnum
      have : (2 : Int) = (a.length : Int) := Option.some.inj hnum
      exact len2 (by omega)
    refine ⟨_, rfl, rfl, _, rfl, ?_⟩
    refine ifB (fun h => ?_) (fun h => ?_)
    · have hp : p = 0 := by have := V.int.inj (of_decide_eq_true h); omega
      subst hp
      exact ⟨_, rfl, x, dx, _, rfl, e1, hF_no kl kd (by decide +kernel) (by decide +kernel), _, rfl, x, kd, T', t, n, _, _, rfl, hH, hT, by omega, ⟨ra, u, rfl, hra, hraT, hul, rfl⟩, fin 1 _ (by decide) (turnM_take t a u)⟩
    have p0 : p ≠ 0 := fun e => of_decide_eq_false h (by rw [e]; rfl)
    refine ⟨_, rfl, x, C, dx, _, _, rfl, e1, T.cl, T.nK, hF_kind kl kd, kl, _, rfl, .inl (SqL.of e2), rfl, _, rfl, ?_⟩
    rw [List.length_map, List.length_map]
    refine ifB (fun h => ?_) (fun h => ?_)
    · have h0 : (t.length : Int) = 0 := V.int.inj (of_decide_eq_true h)
      have ht0 : t = [] := List.length_eq_zero_iff.1 (by omega)
      subst ht0
      refine ⟨by show 1 ≤ sizeLine; decide, fun y ny => ?_⟩
      exact fin 0 _ (by decide) (turnM_none p0 a u) _ y (hH.same (same_new ny)) (KeepH.of (same_new ny)) ny upd_same
    have hne : t ≠ [] := fun e => of_decide_eq_false h (by rw [e]; rfl)
    have ok : OkT t := ht.resolve_left hne
    have ok7 := ok.2
    clear h
    refine ⟨_, rfl, rfl, _, rfl, ?_⟩
    refine ifB (fun h => ?_) (fun h => ?_)
    · have hp : p = 1 := by have := V.int.inj (of_decide_eq_true h); omega
      subst hp
      exact ⟨_, rfl, x, dx, _, rfl, e1, hF_no kl kd (by decide +kernel) (by decide +kernel), x, kd, T', t, n, _, _, rfl, hH, hT, by omega, ⟨rfl, ok, rfl⟩, fin 1 _ (by decide) (turnM_line hne a u)⟩
    have p1 : p ≠ 1 := fun e => of_decide_eq_false h (by rw [e]; rfl)
    clear h
    refine ⟨_, rfl, rfl, _, rfl, ?_⟩
    refine ifB (fun h => ?_) (fun h => ?_)
    · have hp : p = 2 := by have := V.int.inj (of_decide_eq_true h); omega
      subst hp
      exact ⟨_, rfl, x, dx, _, rfl, e1, hF_no kl kd (by decide +kernel) (by decide +kernel), x, kd, T', t, n, _, _, rfl, hH, hT, by omega, ⟨rfl, ok, rfl⟩, fin 0 _ (by decide) (turnM_turn hne a u)⟩
    have p2 : p ≠ 2 := fun e => of_decide_eq_false h (by rw [e]; rfl)
    clear h
    refine ⟨_, rfl, rfl, _, rfl, ?_⟩
    refine ifB (fun h => ?_) (fun h => ?_)
    · have hp : p = 3 := by have := V.int.inj (of_decide_eq_true h); omega
      subst hp
      exact ⟨_, rfl, x, dx, _, rfl, e1, hF_no kl kd (by decide +kernel) (by decide +kernel), x, kd, T', t, n, _, _, rfl, hH, hT, by omega, ⟨rfl, ok, rfl⟩, fin 0 _ (by decide) (turnM_double hne a u)⟩
    have p3 : p ≠ 3 := fun e => of_decide_eq_false h (by rw [e]; rfl)
    clear h
    refine ⟨_, rfl, rfl, _, rfl, ?_⟩
    refine ifB (fun h => ?_) (fun h => ?_)
    · have hp : p = 4 := by have := V.int.inj (of_decide_eq_true h); omega
      subst hp
      exact ⟨_, rfl, x, dx, _, rfl, e1, hF_no kl kd (by decide +kernel) (by decide +kernel), _, rfl, x, kd, T', t, n, _, _, rfl, hH, hT, by omega, ⟨ra, u, rfl, hra, hul, ok, rfl⟩, fin 1 _ (by decide) (turnM_brings hne a u)⟩
    have p4 : p ≠ 4 := fun e => of_decide_eq_false h (by rw [e]; rfl)
    clear h
    refine ⟨_, rfl, rfl, _, rfl, ?_⟩
    refine ifB (fun h => ?_) (fun h => ?_)
    · have hp : p = 5 := by have := V.int.inj (of_decide_eq_true h); omega
      obtain ⟨j, rfl⟩ := num1 hp rfl
      subst hp
      exact ⟨_, rfl, x, dx, _, rfl, e1, hF_no kl kd (by decide +kernel) (by decide +kernel), _, rfl, na, _, _, V.int (j : Nat), rfl, rfl, SqL.of hna, atI_nat (j := 0) rfl, x, kd, T', t, n, _, _, rfl, hH, hT, by omega, ⟨j, rfl, ok, rfl⟩, fin 1 _ (by decide) (turnM_types hne j u)⟩
    have p5 : p ≠ 5 := fun e => of_decide_eq_false h (by rw [e]; rfl)
    clear h
    refine ⟨_, rfl, rfl, _, rfl, ?_⟩
    refine ifB (fun h => ?_) (fun h => ?_)
    · have hp : p = 6 := by have := V.int.inj (of_decide_eq_true h); omega
      obtain ⟨j, i, rfl⟩ := num2 hp
      subst hp
      exact ⟨_, rfl, x, dx, _, rfl, e1, hF_no kl kd (by decide +kernel) (by decide +kernel), _, rfl, na, _, _, V.int (j : Nat), rfl, rfl, SqL.of hna, atI_nat (j := 0) rfl, _, rfl, na, _, _, V.int (i : Nat), rfl, rfl, SqL.of hna, atI_nat (j := 1) rfl, x, kd, T', t, n, _, _, rfl, hH, hT, by omega, ⟨j, i, rfl, ok, rfl⟩, fin 1 _ (by decide) (turnM_nth ok.1 j i u)⟩
    have p6 : p ≠ 6 := fun e => of_decide_eq_false h (by rw [e]; rfl)
    clear h
    refine ⟨_, rfl, rfl, _, rfl, ?_⟩
    refine ifB (fun h => ?_) (fun h => ?_)
    · have hp : p = 7 := by have := V.int.inj (of_decide_eq_true h); omega
      subst hp
      exact ⟨_, rfl, x, dx, _, rfl, e1, hF_no kl kd (by decide +kernel) (by decide +kernel), x, kd, T', t, n, _, _, rfl, hH, hT, by omega, ⟨rfl, ok, rfl⟩, fin 6 _ (by decide) (turnM_steps hne a u)⟩
    have p7 : p ≠ 7 := fun e => of_decide_eq_false h (by rw [e]; rfl)
    clear h
    refine ⟨_, rfl, rfl, _, rfl, ?_⟩
    refine ifB (fun h => ?_) (fun h => ?_)
    · have hp : p = 8 := by have := V.int.inj (of_decide_eq_true h); omega
      subst hp
      exact ⟨_, rfl, x, dx, _, rfl, e1, hF_no kl kd (by decide +kernel) (by decide +kernel), x, kd, T', t, n, _, _, rfl, hH, hT, by omega, ⟨rfl, ok, rfl⟩, fin 1 _ (by decide) (turnM_alone ok.1 a u)⟩
    have p8 : p ≠ 8 := fun e => of_decide_eq_false h (by rw [e]; rfl)
    clear h
    refine ⟨_, rfl, rfl, _, rfl, ?_⟩
    refine ifB (fun h => ?_) (fun h => ?_)
    · have hp : p = 9 := by have := V.int.inj (of_decide_eq_true h); omega
      obtain ⟨j, rfl⟩ := num1 hp rfl
      subst hp
      exact ⟨_, rfl, x, dx, _, rfl, e1, hF_no kl kd (by decide +kernel) (by decide +kernel), _, rfl, na, _, _, V.int (j : Nat), rfl, rfl, SqL.of hna, atI_nat (j := 0) rfl, x, kd, T', t, n, _, _, rfl, hH, hT, by omega, ⟨j, rfl, ok, rfl⟩, fin 24 _ (by decide) (turnM_by hne j u)⟩
    have p9 : p ≠ 9 := fun e => of_decide_eq_false h (by rw [e]; rfl)
    clear h
    refine ⟨_, rfl, rfl, _, rfl, ?_⟩
    refine ifB (fun h => ?_) (fun h => ?_)
    · have hp : p = 10 := by have := V.int.inj (of_decide_eq_true h); omega
      obtain ⟨j, rfl⟩ := num1 hp rfl
      subst hp
      exact ⟨_, rfl, x, dx, _, rfl, e1, hF_no kl kd (by decide +kernel) (by decide +kernel), _, rfl, na, _, _, V.int (j : Nat), rfl, rfl, SqL.of hna, atI_nat (j := 0) rfl, x, kd, T', t, n, _, _, rfl, hH, hT, by omega, ⟨j, rfl, rfl⟩, fin 24 _ (by decide) (turnM_first hne j u)⟩
    have p10 : p ≠ 10 := fun e => of_decide_eq_false h (by rw [e]; rfl)
    clear h
    have hp : p = 11 := by omega
    subst hp
    exact ⟨_, rfl, x, dx, _, rfl, e1, hF_no kl kd (by decide +kernel) (by decide +kernel), x, kd, T', t, n, _, _, rfl, hH, hT, by omega, ⟨rfl, by omega, rfl⟩, fin 0 _ (by decide) (turnM_show hne a u)⟩
end
end Rt

set_option Elab.async false
set_option maxRecDepth 100000
set_option maxHeartbeats 8000000
namespace Rt
open PySem PySem.Spec PyProof.Rows L2
abbrev sAnswers : Stmt := topS 38
theorem scAn : FnScope ["calls", "holder", "told", "call", "numbers", "row", "answer"] ["calls"] (defScope sAnswers) := ⟨rfl, rfl, rfl, by decide +kernel, rfl, by decide +kernel, by decide +kernel⟩
def spAns (K : PySem.W.Frag) : Sp := fun vs H Q _ => ∃ (a : Addr) (ns : List Int), vs = [.ref a] ∧ SqL K H a (ns.map V.int) ∧ ns.length ≤ 4800 ∧ (∀ x ∈ ns, 0 ≤ x ∧ x ≤ 4294967295) ∧ PySu184.answers_asked ns = true ∧
  ∀ (H' : Hp) (p : Addr), H' p = some (.lst ((PySu184.answers ns).map V.int)) → Q (.ref p) H'
theorem nz_toN {l : List Int} (h : ∀ x ∈ l, 0 ≤ x) : nz (toN l) = l := by
  unfold nz toN
  rw [List.map_map]
  refine (List.map_congr_left (g := id) fun x hx => ?_).trans (List.map_id _)
  have := h x hx
  show ((x.toNat : Nat) : Int) = x
  omega
theorem mem_put1 {cs : List (List (List Int))} {c : List (List Int)} (h : c ∈ cs) : ∀ x ∈ PyFlat.put1 c, x ∈ PyFlat.put cs := by
  induction cs with
  | nil => simp at h
  | cons d cs ih =>
    intro x hx
    show x ∈ PyFlat.put1 d ++ PyFlat.put cs
    rcases List.mem_cons.1 h with rfl | h
    · exact List.mem_append.2 (.inl hx)
    · exact List.mem_append.2 (.inr (ih h x hx))
/-- the row of a call has at most 10 numbers -/
theorem row_short {q : Nat} {nums : List Int} {xs : List (List Int)} (hk : (q = 0 ∨ q = 4) ∧ xs.length = 1 ∨ ¬ (q = 0 ∨ q = 4) ∧ xs.length = 0) (h : PyInside.call PySu184.bound (((q : Int) :: nums) :: xs) = true) : (xs.headD []).length ≤ 10 := by
  rcases hk with ⟨hq, hx⟩ | ⟨_, hx⟩
  · obtain ⟨r, rfl⟩ := len1 hx
    have hb : (PySu184.bound (q : Int)).2 = [(0, 4294967295, 0, 10)] := by
      rcases hq with rfl | rfl <;> rfl
    unfold PyInside.call at h
    simp only [Bool.and_eq_true] at h
    have h2 := h.2
    rw [hb] at h2
    unfold PyInside.lists at h2
    simp only [Bool.and_eq_true, decide_eq_true_eq] at h2
    exact h2.1.1.2
  · rw [len0 hx]; simp
theorem playM_step {t : List Nat} {q : Nat} {nums : List Int} {xs : List (List Int)} {cs : List (List (List Int))} : playM t ((((q : Int) :: nums) :: xs) :: cs) = (((turnM t q (toN nums) (toN (xs.headD []))).2.length : Nat) : Int) :: (turnM t q (toN nums) (toN (xs.headD []))).2 ++ playM (turnM t q (toN nums) (toN (xs.headD []))).1 cs := by
  cases xs <;> rfl
section
variable {P : Program} {w : World} {K : PySem.W.Frag} {mg : Str → Option Value} {base : Heap} {C : Addr}
theorem ok_answers {f fI fA fO : Addr} {fd dI dA dO : FuncData} (F : Fun K "answers" "answers" sAnswers f fd) (MK : Mk K C fI) (GI : FnOk P w K mg base CX0 1 fI dI ["self"] (spInit P w C)) (bI : Binds K dI ["self"] []) (mC : mg "Holder" = some (.ref C))
    (GA : FnOk P w K mg base CX0 1 fA dA ["calls"] (spApart K)) (DA : Def1 K mg "calls_apart" fA dA ["calls"]) (GO : FnOk P w K mg base CX0 6 fO dO ["holder", "call", "numbers", "row"] (spAo P w C)) (DO : Def1 K mg "answer_of" fO dO ["holder", "call", "numbers", "row"]) (ml : mg "len" = none) :
    FnOk P w K mg base CX0 7 f fd ["calls"] (spAns K) := by
  refine F.ok scAn (fun vs H Q E h => ?_) (fun cdv A outer s H vs Q E hr h => ?_)
  · obtain ⟨a, ns, rfl, _⟩ := h
    rfl
  · obtain ⟨a, ns, rfl, hS, hlen, hb, hask, q⟩ := h
    have hr1 := hr.mono (show 1 ≤ 6 by decide)
    have hr2 := hr.mono (show 2 ≤ 6 by decide)
    refine ⟨_, pss_cons (ps_set (i := 1) scAn.nd rfl (Or.inl rfl) (pe_make0 MK GI hr2 rfl mC bI .nil pass0))
      (pss_cons (ps_set (i := 2) scAn.nd rfl (Or.inl rfl) (pe_lst pa_nil))
      (pss_cons (ps_for PassesOwn.never rfl (pi_list (pe_call GA hr1 (by rfl) DA.gl DA.kp DA.bi .nil pass0 (pa_cons (pv 0) pa_nil))) (pg_tup rfl (pgs_cons (pg_name (i := 3) scAn.nd rfl (Or.inl rfl)) (pgs_cons (pg_name (i := 4) scAn.nd rfl (Or.inl rfl)) (pgs_cons (pg_name (i := 5) scAn.nd rfl (Or.inl rfl)) pgs_nil))))
        (pss_cons (ps_set (i := 6) scAn.nd rfl (Or.inl rfl) (pe_call GO hr (by rfl) DO.gl DO.kp DO.bi .nil pass0 (pa_cons (pv 1) (pa_cons (pv 3) (pa_cons (pv 4) (pa_cons (pv 5) pa_nil))))))
        (pss_cons (ps_expr (pe_bm PySem.F.plainAttrs_list PySem.F.slot_list_append PySem.F.type_list_append mt_append (pv 2) (pa_cons (pe_callB call_len_seq (by rfl) ml PySem.boot_len (pa_cons (pv 6) pa_nil)) pa_nil)))
        (pss_one (ps_expr (pe_bm PySem.F.plainAttrs_list PySem.F.slot_list_extend PySem.F.type_list_extend mt_extend (pv 2) (pa_cons (pv 6) pa_nil)))))))
      (pss_one (ps_ret (pv 2))))), ?_⟩
    obtain ⟨cs, rfl, hok, h400, hans, hins, h7⟩ := asked_open hask
    rw [hans] at q h7
    intro x dx nx ndx ne
    refine ⟨x, dx, fun _ => False, rfl, upd_same, fun b hb => hb.elim, fun H1 kd hH1 keep1 => ⟨rfl, ?_⟩⟩
    have sm1 : Same H H1 := fun b o e => keep1 b o (ne_of_none e nx) (by rw [upd_ne (ne_of_none e nx), upd_ne (ne_of_none e ndx)]; exact e)
    refine ⟨Nat.zero_le _, fun TD nTD => ?_⟩
    have s2 : Same H1 (upd H1 TD (.lst [])) := same_new nTD
    have hH2 : Hold P w C (upd H1 TD (.lst [])) x kd (fun b => b = TD) [] 0 := (hH1.less fun b hb => .inr (by rw [hb]; exact nTD)).same s2
    have hTD2 : upd H1 TD (.lst []) TD = some (.lst []) := upd_same
    have sm2 := sm1.trans s2
    generalize upd H1 TD (.lst []) = H2 at *
    refine ⟨_, rfl, a, cs, rfl, sm2.seq hS, hlen, hok, fun H3 p as s3 np hp hA => ?_⟩
    have hH3 := hH2.same s3
    obtain ⟨px, pk⟩ := hH3.apart hp (.inl ⟨_, rfl⟩)
    have pT : p ≠ TD := (ne_of_none hTD2 np).symm
    refine ⟨p, rfl, ⟨_, SqL.of hp⟩, ?_⟩
    refine for_list (K := K) (a := p) (xs := as.map V.ref) (fun i σ H' => ∃ t out y3 y4 y5 y6, σ = [some (.ref a), some (.ref x), some (.ref TD), y3, y4, y5, y6] ∧ StT t ∧ Hold P w C H' x kd (fun b => b = TD) t (24 * i) ∧ H' TD = some (.lst (ivs out)) ∧ out ++ playM t (cs.drop i) = playM [] cs ∧ ∀ b o, b ≠ x → b ≠ kd → b ≠ TD → H3 b = some o → H' b = some o) ?_ ?_ ?_ ?_
    · exact ⟨[], [], none, none, none, none, rfl, .inl rfl, hH3, s3 _ _ hTD2, rfl, fun _ _ _ _ _ e => e⟩
    · rintro i σ H' _ ⟨t, out, y3, y4, y5, y6, rfl, ht, hH', hTD, hout, kk⟩
      exact SqL.of (kk _ _ px pk pT hp)
    · rintro i v σ H' hx ⟨t, out, y3, y4, y5, y6, rfl, ht, hH', hTD, hout, kk⟩
      rw [List.getElem?_map] at hx
      cases eai : as[i]? with
      | none => rw [eai] at hx; cases hx
      | some ai =>
        rw [eai] at hx
        have hx : V.ref ai = v := Option.some.inj hx
        subst hx
        have hi : i < cs.length := by rw [← hA.1]; exact (List.getElem?_eq_some_iff.1 eai).1
        have hci : cs[i]? = some cs[i] := List.getElem?_eq_getElem hi
        have hmem : cs[i] ∈ cs := List.getElem_mem hi
        have hdrop : cs.drop i = cs[i] :: cs.drop (i + 1) := List.drop_eq_getElem_cons hi
        rw [hdrop] at hout
        generalize cs[i] = c at *
        obtain ⟨pz, nums, xs, na, ra, rfl, g1, g2, g3, g4, g5⟩ := hA.2 i ai c eai hci
        obtain ⟨_, _, _, ec, hsh⟩ := hok _ hmem
        cases ec
        obtain ⟨pq, rfl, hq12, hnum, hrows⟩ := shape_some hsh
        have hshort := row_short hrows (hins _ hmem)
        have hm1 := mem_put1 hmem
        have hnn : ∀ z ∈ nums, 0 ≤ z := fun z hz => (hb z (hm1 z (by simp [PyFlat.put1, hz]))).1
        have hrn : ∀ z ∈ xs.headD [], 0 ≤ z := by
          intro z hz
          cases xs with
          | nil => simp at hz
          | cons r xs =>
            have hz : z ∈ r := hz
            exact (hb z (hm1 z (by simp [PyFlat.put1, PyFlat.putRows, PyFlat.putRow, hz]))).1
        -- where the call's parts stand
        have far : ∀ b, H2 b = none → b ≠ x ∧ b ≠ kd ∧ b ≠ TD := fun b hb2 => by
          obtain ⟨⟨dx', kl', f1, _⟩, kvs, nat, _⟩ := hH2
          exact ⟨(ne_of_none f1 hb2).symm, (ne_of_none nat.obj hb2).symm, (ne_of_none hTD2 hb2).symm⟩
        obtain ⟨n1, n2, n3⟩ := far na g4
        obtain ⟨r1, r2, r3⟩ := far ra g5
        have hna := kk _ _ n1 n2 n3 g2
        have hra := kk _ _ r1 r2 r3 g3
        obtain ⟨a1, a2⟩ := hH3.apart g1 (.inr ⟨_, rfl⟩)
        have hai := kk _ _ a1 a2 (ne_of g1 (s3 _ _ hTD2) (by intro z; cases z)) g1
        rw [← nz_toN hnn] at hna
        rw [← nz_toN hrn] at hra
        have hnl : (toN nums).length = nums.length := List.length_map ..
        have hrl : (toN (xs.headD [])).length = (xs.headD []).length := List.length_map ..
        rw [playM_step] at hout
        have live : Live H' (fun b => b = TD) := fun b hb2 => ⟨.lst (ivs out), by rw [show b = TD from hb2]; exact hTD⟩
        have hst := turnM_ok ht pq (toN nums) (toN (xs.headD []))
        refine ⟨ai, _, rfl, .inl (.inl hai), rfl, _, _, rfl, _, _, rfl, _, _, rfl, rfl, ?_⟩
        refine ⟨_, rfl, _, rfl, _, rfl, _, rfl, x, kd, na, ra, (fun b => b = TD), t, toN nums, toN (xs.headD []), 24 * i, pq, rfl, hH', live, by omega, ht, hq12, by rw [hnl]; exact hnum, hna, hra, r3, by omega, fun H5 y hH5 k5 ny hy => ?_⟩
        generalize turnM t pq (toN nums) (toN (xs.headD [])) = r at *
        obtain ⟨b1, b2⟩ := hH'.apart hTD (.inl ⟨_, rfl⟩)
        have hTD5 := k5 _ _ b1 b2 hTD
        have yT : y ≠ TD := (ne_of_none hTD ny).symm
        have hol : out.length + (1 + r.2.length) ≤ 10000000 := by
          rw [← hout] at h7
          simp only [List.length_append, List.length_cons] at h7
          omega
        have big : 10000000 < sizeLine := by decide
        refine ⟨_, rfl, .inl ⟨rfl, _, SqL.of hTD5⟩, _, rfl, y, _, rfl, .inl (SqL.of hy), TD, _, _, rfl, rfl, hTD5, ?_, ?_⟩
        · rw [List.length_map]
          omega
        have hH6 := hH5.put (ys := ivs out ++ [V.int ((ivs r.2).length : Nat)]) rfl hTD5
        have hTD6 : upd H5 TD (.lst (ivs out ++ [V.int ((ivs r.2).length : Nat)])) TD = some (.lst (ivs out ++ [V.int ((ivs r.2).length : Nat)])) := upd_same
        have hy6 : upd H5 TD (.lst (ivs out ++ [V.int ((ivs r.2).length : Nat)])) y = some (.lst (ivs r.2)) := by rw [upd_ne yT]; exact hy
        have k6 : ∀ b o, b ≠ x → b ≠ kd → b ≠ TD → H3 b = some o → upd H5 TD (.lst (ivs out ++ [V.int ((ivs r.2).length : Nat)])) b = some o := fun b o c1 c2 c3 e => by
          rw [upd_ne c3]
          exact k5 _ _ c1 c2 (kk _ _ c1 c2 c3 e)
        generalize upd H5 TD (.lst (ivs out ++ [V.int ((ivs r.2).length : Nat)])) = H6 at *
        refine ⟨_, rfl, .inl ⟨rfl, _, SqL.of hTD6⟩, _, rfl, TD, y, _, _, rfl, rfl, hTD6, hy6, ?_, ?_⟩
        · simp only [List.length_append, List.length_map, List.length_cons, List.length_nil]
          omega
        refine ⟨r.1, out ++ ((r.2.length : Nat) : Int) :: r.2, _, _, _, _, rfl, hst, (hH6.put rfl hTD6).more (by omega), ?_, ?_, fun b o c1 c2 c3 e => by rw [upd_ne c3]; exact k6 b o c1 c2 c3 e⟩
        · rw [upd_same]
          simp
        · rw [← hout]; simp
    · rintro σ H' ⟨t, out, y3, y4, y5, y6, rfl, ht, hH', hTD, hout, kk⟩
      rw [List.length_map, hA.1, List.drop_length] at hout
      have e : out = playM [] cs := by rw [← hout]; exact (List.append_nil _).symm
      rw [e] at hTD
      exact ⟨_, rfl, q H' TD hTD⟩
end
end Rt

set_option Elab.async false
set_option maxRecDepth 100000
set_option maxHeartbeats 8000000
namespace Rt
open PySem PySem.Spec PyProof.Rows L2
theorem int_of {K : PySem.W.Frag} {h : Heap} {mg : Str → Option Value} {n : Str} {i : Int} {t : Tok} (X : K.In h) (G : h.Ns mainGlobals mg) (e : PySem.W.nsIn K mainGlobals n = some (some (.int i t))) : GInt mg n i := ⟨t, PySem.W.mg_of X G e⟩
theorem nums_at {K : PySem.W.Frag} {a : Addr} {d : Option Addr} {n : Nat} {sl : Array (Option Value)} {k0 k1 k2 k3 k4 k5 k6 k7 k8 k9 k10 k11 : Tok} (l : K.lookup a = some ⟨.type "tuple", d, .seq #[.int 0 k0, .int 0 k1, .int 0 k2, .int 0 k3, .int 0 k4, .int 1 k5, .int 2 k6, .int 0 k7, .int 0 k8, .int 1 k9, .int 1 k10, .int 0 k11] n, sl⟩) (H : Hp) : SqT K H a (ivs NUMS) :=
  .inr ⟨_, _, _, l, rfl, rfl, by show 12 ≤ sizeLine; decide, .cons ⟨_, rfl⟩ ( .cons ⟨_, rfl⟩ ( .cons ⟨_, rfl⟩ ( .cons ⟨_, rfl⟩ ( .cons ⟨_, rfl⟩ ( .cons ⟨_, rfl⟩ ( .cons ⟨_, rfl⟩ ( .cons ⟨_, rfl⟩ ( .cons ⟨_, rfl⟩ ( .cons ⟨_, rfl⟩ ( .cons ⟨_, rfl⟩ ( .cons ⟨_, rfl⟩ ( .nil))))))))))))⟩
/-- what the top has written, and the law's def -/
theorem all_mk {P : Program} {w : World} {K : PySem.W.Frag} {h : Heap} {mg : Str → Option Value} {fa C aN : Addr} {fd0 fd1 fd2 fd3 fd4 fd5 fd6 fd7 fd8 fd9 fd10 fd11 fd12 fd13 fd14 fd15 fm0 fm1 fm2 fm3 fm4 fm5 fm6 fm7 fm8 fm9 fm10 fm11 fm12 fm13 : Addr} (X : K.In h) (G : h.Ns mainGlobals mg) (hfa : mg "answers" = some (.ref fa))
    {odd0 and0 : Option Addr} {sld0 : Array (Option Value)} {ocd0 kVd0 dcd0 pmd0 cdd0 ctd0 : Value}
    {odd1 and1 : Option Addr} {sld1 : Array (Option Value)} {ocd1 kVd1 dcd1 pmd1 cdd1 ctd1 : Value}
    {odd2 and2 : Option Addr} {sld2 : Array (Option Value)} {ocd2 kVd2 dcd2 pmd2 cdd2 ctd2 : Value}
    {odd3 and3 : Option Addr} {sld3 : Array (Option Value)} {ocd3 kVd3 dcd3 pmd3 cdd3 ctd3 : Value}
    {odd4 and4 : Option Addr} {sld4 : Array (Option Value)} {ocd4 kVd4 dcd4 pmd4 cdd4 ctd4 : Value}
    {odd5 and5 : Option Addr} {sld5 : Array (Option Value)} {ocd5 kVd5 dcd5 pmd5 cdd5 ctd5 : Value}
    {odd6 and6 : Option Addr} {sld6 : Array (Option Value)} {ocd6 kVd6 dcd6 pmd6 cdd6 ctd6 : Value}
    {odd7 and7 : Option Addr} {sld7 : Array (Option Value)} {ocd7 kVd7 dcd7 pmd7 cdd7 ctd7 : Value}
    {odd8 and8 : Option Addr} {sld8 : Array (Option Value)} {ocd8 kVd8 dcd8 pmd8 cdd8 ctd8 : Value}
    {odd9 and9 : Option Addr} {sld9 : Array (Option Value)} {ocd9 kVd9 dcd9 pmd9 cdd9 ctd9 : Value}
    {odd10 and10 : Option Addr} {sld10 : Array (Option Value)} {ocd10 kVd10 dcd10 pmd10 cdd10 ctd10 : Value}
    {odd11 and11 : Option Addr} {sld11 : Array (Option Value)} {ocd11 kVd11 dcd11 pmd11 cdd11 ctd11 : Value}
    {odd12 and12 : Option Addr} {sld12 : Array (Option Value)} {ocd12 kVd12 dcd12 pmd12 cdd12 ctd12 : Value}
    {odd13 and13 : Option Addr} {sld13 : Array (Option Value)} {ocd13 kVd13 dcd13 pmd13 cdd13 ctd13 : Value}
    {odd14 and14 : Option Addr} {sld14 : Array (Option Value)} {ocd14 kVd14 dcd14 pmd14 cdd14 ctd14 : Value}
    {odd15 and15 : Option Addr} {sld15 : Array (Option Value)} {ocd15 kVd15 dcd15 pmd15 cdd15 ctd15 : Value}
    {odm0 anm0 : Option Addr} {slm0 : Array (Option Value)} {ocm0 kVm0 dcm0 pmm0 cdm0 ctm0 : Value}
    {odm1 anm1 : Option Addr} {slm1 : Array (Option Value)} {ocm1 kVm1 dcm1 pmm1 cdm1 ctm1 : Value}
    {odm2 anm2 : Option Addr} {slm2 : Array (Option Value)} {ocm2 kVm2 dcm2 pmm2 cdm2 ctm2 : Value}
    {odm3 anm3 : Option Addr} {slm3 : Array (Option Value)} {ocm3 kVm3 dcm3 pmm3 cdm3 ctm3 : Value}
    {odm4 anm4 : Option Addr} {slm4 : Array (Option Value)} {ocm4 kVm4 dcm4 pmm4 cdm4 ctm4 : Value}
    {odm5 anm5 : Option Addr} {slm5 : Array (Option Value)} {ocm5 kVm5 dcm5 pmm5 cdm5 ctm5 : Value}
    {odm6 anm6 : Option Addr} {slm6 : Array (Option Value)} {ocm6 kVm6 dcm6 pmm6 cdm6 ctm6 : Value}
    {odm7 anm7 : Option Addr} {slm7 : Array (Option Value)} {ocm7 kVm7 dcm7 pmm7 cdm7 ctm7 : Value}
    {odm8 anm8 : Option Addr} {slm8 : Array (Option Value)} {ocm8 kVm8 dcm8 pmm8 cdm8 ctm8 : Value}
    {odm9 anm9 : Option Addr} {slm9 : Array (Option Value)} {ocm9 kVm9 dcm9 pmm9 cdm9 ctm9 : Value}
    {odm10 anm10 : Option Addr} {slm10 : Array (Option Value)} {ocm10 kVm10 dcm10 pmm10 cdm10 ctm10 : Value}
    {odm11 anm11 : Option Addr} {slm11 : Array (Option Value)} {ocm11 kVm11 dcm11 pmm11 cdm11 ctm11 : Value}
    {odm12 anm12 : Option Addr} {slm12 : Array (Option Value)} {ocm12 kVm12 dcm12 pmm12 cdm12 ctm12 : Value}
    {odm13 anm13 : Option Addr} {slm13 : Array (Option Value)} {ocm13 kVm13 dcm13 pmm13 cdm13 ctm13 : Value}
    (ad0 : PySem.W.nsIn K mainGlobals "is_kind" = some (some (.ref fd0))) (ld0 : K.lookup fd0 = some ⟨ocd0, odd0, .func (PySem.W.fnOf "is_kind" "is_kind" (defArgs sIsKind) (defBody sIsKind) (defScope sIsKind) .none kVd0 dcd0 pmd0 and0 cdd0 ctd0), sld0⟩) (cd0 : PySem.W.codeIn K cdd0 "is_kind" = true) (kd0 : PySem.W.keepIn K (.ref fd0) = true)
    (ad1 : PySem.W.nsIn K mainGlobals "kinds_of" = some (some (.ref fd1))) (ld1 : K.lookup fd1 = some ⟨ocd1, odd1, .func (PySem.W.fnOf "kinds_of" "kinds_of" (defArgs sKindsOf) (defBody sKindsOf) (defScope sKindsOf) .none kVd1 dcd1 pmd1 and1 cdd1 ctd1), sld1⟩) (cd1 : PySem.W.codeIn K cdd1 "kinds_of" = true) (kd1 : PySem.W.keepIn K (.ref fd1) = true)
    (ad2 : PySem.W.nsIn K mainGlobals "begun_at_least" = some (some (.ref fd2))) (ld2 : K.lookup fd2 = some ⟨ocd2, odd2, .func (PySem.W.fnOf "begun_at_least" "begun_at_least" (defArgs sBegun) (defBody sBegun) (defScope sBegun) .none kVd2 dcd2 pmd2 and2 cdd2 ctd2), sld2⟩) (cd2 : PySem.W.codeIn K cdd2 "begun_at_least" = true) (kd2 : PySem.W.keepIn K (.ref fd2) = true)
    (ad3 : PySem.W.nsIn K mainGlobals "turned" = some (some (.ref fd3))) (ld3 : K.lookup fd3 = some ⟨ocd3, odd3, .func (PySem.W.fnOf "turned" "turned" (defArgs sTurned) (defBody sTurned) (defScope sTurned) .none kVd3 dcd3 pmd3 and3 cdd3 ctd3), sld3⟩) (cd3 : PySem.W.codeIn K cdd3 "turned" = true) (kd3 : PySem.W.keepIn K (.ref fd3) = true)
    (ad4 : PySem.W.nsIn K mainGlobals "doubled" = some (some (.ref fd4))) (ld4 : K.lookup fd4 = some ⟨ocd4, odd4, .func (PySem.W.fnOf "doubled" "doubled" (defArgs sDoubled) (defBody sDoubled) (defScope sDoubled) .none kVd4 dcd4 pmd4 and4 cdd4 ctd4), sld4⟩) (cd4 : PySem.W.codeIn K cdd4 "doubled" = true) (kd4 : PySem.W.keepIn K (.ref fd4) = true)
    (ad5 : PySem.W.nsIn K mainGlobals "line_of" = some (some (.ref fd5))) (ld5 : K.lookup fd5 = some ⟨ocd5, odd5, .func (PySem.W.fnOf "line_of" "line_of" (defArgs sLineOf) (defBody sLineOf) (defScope sLineOf) .none kVd5 dcd5 pmd5 and5 cdd5 ctd5), sld5⟩) (cd5 : PySem.W.codeIn K cdd5 "line_of" = true) (kd5 : PySem.W.keepIn K (.ref fd5) = true)
    (ad6 : PySem.W.nsIn K mainGlobals "slopes_of" = some (some (.ref fd6))) (ld6 : K.lookup fd6 = some ⟨ocd6, odd6, .func (PySem.W.fnOf "slopes_of" "slopes_of" (defArgs sSlopes) (defBody sSlopes) (defScope sSlopes) .none kVd6 dcd6 pmd6 and6 cdd6 ctd6), sld6⟩) (cd6 : PySem.W.codeIn K cdd6 "slopes_of" = true) (kd6 : PySem.W.keepIn K (.ref fd6) = true)
    (ad7 : PySem.W.nsIn K mainGlobals "shifts_of" = some (some (.ref fd7))) (ld7 : K.lookup fd7 = some ⟨ocd7, odd7, .func (PySem.W.fnOf "shifts_of" "shifts_of" (defArgs sShifts) (defBody sShifts) (defScope sShifts) .none kVd7 dcd7 pmd7 and7 cdd7 ctd7), sld7⟩) (cd7 : PySem.W.codeIn K cdd7 "shifts_of" = true) (kd7 : PySem.W.keepIn K (.ref fd7) = true)
    (ad8 : PySem.W.nsIn K mainGlobals "covers_of" = some (some (.ref fd8))) (ld8 : K.lookup fd8 = some ⟨ocd8, odd8, .func (PySem.W.fnOf "covers_of" "covers_of" (defArgs sCovers) (defBody sCovers) (defScope sCovers) .none kVd8 dcd8 pmd8 and8 cdd8 ctd8), sld8⟩) (cd8 : PySem.W.codeIn K cdd8 "covers_of" = true) (kd8 : PySem.W.keepIn K (.ref fd8) = true)
    (ad9 : PySem.W.nsIn K mainGlobals "ways_round" = some (some (.ref fd9))) (ld9 : K.lookup fd9 = some ⟨ocd9, odd9, .func (PySem.W.fnOf "ways_round" "ways_round" (defArgs sWays) (defBody sWays) (defScope sWays) .none kVd9 dcd9 pmd9 and9 cdd9 ctd9), sld9⟩) (cd9 : PySem.W.codeIn K cdd9 "ways_round" = true) (kd9 : PySem.W.keepIn K (.ref fd9) = true)
    (ad10 : PySem.W.nsIn K mainGlobals "places_along" = some (some (.ref fd10))) (ld10 : K.lookup fd10 = some ⟨ocd10, odd10, .func (PySem.W.fnOf "places_along" "places_along" (defArgs sPlaces) (defBody sPlaces) (defScope sPlaces) .none kVd10 dcd10 pmd10 and10 cdd10 ctd10), sld10⟩) (cd10 : PySem.W.codeIn K cdd10 "places_along" = true) (kd10 : PySem.W.keepIn K (.ref fd10) = true)
    (ad11 : PySem.W.nsIn K mainGlobals "kind_of" = some (some (.ref fd11))) (ld11 : K.lookup fd11 = some ⟨ocd11, odd11, .func (PySem.W.fnOf "kind_of" "kind_of" (defArgs sKindOf) (defBody sKindOf) (defScope sKindOf) .none kVd11 dcd11 pmd11 and11 cdd11 ctd11), sld11⟩) (cd11 : PySem.W.codeIn K cdd11 "kind_of" = true) (kd11 : PySem.W.keepIn K (.ref fd11) = true)
    (ad12 : PySem.W.nsIn K mainGlobals "kinds_brought" = some (some (.ref fd12))) (ld12 : K.lookup fd12 = some ⟨ocd12, odd12, .func (PySem.W.fnOf "kinds_brought" "kinds_brought" (defArgs sKinds) (defBody sKinds) (defScope sKinds) .none kVd12 dcd12 pmd12 and12 cdd12 ctd12), sld12⟩) (cd12 : PySem.W.codeIn K cdd12 "kinds_brought" = true) (kd12 : PySem.W.keepIn K (.ref fd12) = true)
    (ad13 : PySem.W.nsIn K mainGlobals "answer_of" = some (some (.ref fd13))) (ld13 : K.lookup fd13 = some ⟨ocd13, odd13, .func (PySem.W.fnOf "answer_of" "answer_of" (defArgs sAnswerOf) (defBody sAnswerOf) (defScope sAnswerOf) .none kVd13 dcd13 pmd13 and13 cdd13 ctd13), sld13⟩) (cd13 : PySem.W.codeIn K cdd13 "answer_of" = true) (kd13 : PySem.W.keepIn K (.ref fd13) = true)
    (ad14 : PySem.W.nsIn K mainGlobals "calls_apart" = some (some (.ref fd14))) (ld14 : K.lookup fd14 = some ⟨ocd14, odd14, .func (PySem.W.fnOf "calls_apart" "calls_apart" (defArgs sApart) (defBody sApart) (defScope sApart) .none kVd14 dcd14 pmd14 and14 cdd14 ctd14), sld14⟩) (cd14 : PySem.W.codeIn K cdd14 "calls_apart" = true) (kd14 : PySem.W.keepIn K (.ref fd14) = true)
    (ad15 : PySem.W.nsIn K mainGlobals "answers" = some (some (.ref fd15))) (ld15 : K.lookup fd15 = some ⟨ocd15, odd15, .func (PySem.W.fnOf "answers" "answers" (defArgs sAnswers) (defBody sAnswers) (defScope sAnswers) .none kVd15 dcd15 pmd15 and15 cdd15 ctd15), sld15⟩) (cd15 : PySem.W.codeIn K cdd15 "answers" = true) (kd15 : PySem.W.keepIn K (.ref fd15) = true)
    (am0 : PySem.W.findIn K (.ref C) "__init__" = some (some (.ref fm0))) (im0 : PySem.W.isFn K (.ref fm0) = true) (lm0 : K.lookup fm0 = some ⟨ocm0, odm0, .func (PySem.W.fnOf "__init__" "Holder.__init__" (defArgs sInit) (defBody sInit) (defScope sInit) .none kVm0 dcm0 pmm0 anm0 cdm0 ctm0), slm0⟩) (cm0 : PySem.W.codeIn K cdm0 "Holder.__init__" = true) (km0 : PySem.W.keepIn K (.ref fm0) = true)
    (am1 : PySem.W.findIn K (.ref C) "take" = some (some (.ref fm1))) (im1 : PySem.W.isFn K (.ref fm1) = true) (lm1 : K.lookup fm1 = some ⟨ocm1, odm1, .func (PySem.W.fnOf "take" "Holder.take" (defArgs sTake) (defBody sTake) (defScope sTake) .none kVm1 dcm1 pmm1 anm1 cdm1 ctm1), slm1⟩) (cm1 : PySem.W.codeIn K cdm1 "Holder.take" = true) (km1 : PySem.W.keepIn K (.ref fm1) = true)
    (am2 : PySem.W.findIn K (.ref C) "line" = some (some (.ref fm2))) (im2 : PySem.W.isFn K (.ref fm2) = true) (lm2 : K.lookup fm2 = some ⟨ocm2, odm2, .func (PySem.W.fnOf "line" "Holder.line" (defArgs sLine) (defBody sLine) (defScope sLine) .none kVm2 dcm2 pmm2 anm2 cdm2 ctm2), slm2⟩) (cm2 : PySem.W.codeIn K cdm2 "Holder.line" = true) (km2 : PySem.W.keepIn K (.ref fm2) = true)
    (am3 : PySem.W.findIn K (.ref C) "show" = some (some (.ref fm3))) (im3 : PySem.W.isFn K (.ref fm3) = true) (lm3 : K.lookup fm3 = some ⟨ocm3, odm3, .func (PySem.W.fnOf "show" "Holder.show" (defArgs sShow) (defBody sShow) (defScope sShow) .none kVm3 dcm3 pmm3 anm3 cdm3 ctm3), slm3⟩) (cm3 : PySem.W.codeIn K cdm3 "Holder.show" = true) (km3 : PySem.W.keepIn K (.ref fm3) = true)
    (am4 : PySem.W.findIn K (.ref C) "turn" = some (some (.ref fm4))) (im4 : PySem.W.isFn K (.ref fm4) = true) (lm4 : K.lookup fm4 = some ⟨ocm4, odm4, .func (PySem.W.fnOf "turn" "Holder.turn" (defArgs sTurn) (defBody sTurn) (defScope sTurn) .none kVm4 dcm4 pmm4 anm4 cdm4 ctm4), slm4⟩) (cm4 : PySem.W.codeIn K cdm4 "Holder.turn" = true) (km4 : PySem.W.keepIn K (.ref fm4) = true)
    (am5 : PySem.W.findIn K (.ref C) "double" = some (some (.ref fm5))) (im5 : PySem.W.isFn K (.ref fm5) = true) (lm5 : K.lookup fm5 = some ⟨ocm5, odm5, .func (PySem.W.fnOf "double" "Holder.double" (defArgs sDouble) (defBody sDouble) (defScope sDouble) .none kVm5 dcm5 pmm5 anm5 cdm5 ctm5), slm5⟩) (cm5 : PySem.W.codeIn K cdm5 "Holder.double" = true) (km5 : PySem.W.keepIn K (.ref fm5) = true)
    (am6 : PySem.W.findIn K (.ref C) "brings" = some (some (.ref fm6))) (im6 : PySem.W.isFn K (.ref fm6) = true) (lm6 : K.lookup fm6 = some ⟨ocm6, odm6, .func (PySem.W.fnOf "brings" "Holder.brings" (defArgs sBrings) (defBody sBrings) (defScope sBrings) .none kVm6 dcm6 pmm6 anm6 cdm6 ctm6), slm6⟩) (cm6 : PySem.W.codeIn K cdm6 "Holder.brings" = true) (km6 : PySem.W.keepIn K (.ref fm6) = true)
    (am7 : PySem.W.findIn K (.ref C) "types" = some (some (.ref fm7))) (im7 : PySem.W.isFn K (.ref fm7) = true) (lm7 : K.lookup fm7 = some ⟨ocm7, odm7, .func (PySem.W.fnOf "types" "Holder.types" (defArgs sTypes) (defBody sTypes) (defScope sTypes) .none kVm7 dcm7 pmm7 anm7 cdm7 ctm7), slm7⟩) (cm7 : PySem.W.codeIn K cdm7 "Holder.types" = true) (km7 : PySem.W.keepIn K (.ref fm7) = true)
    (am8 : PySem.W.findIn K (.ref C) "nth" = some (some (.ref fm8))) (im8 : PySem.W.isFn K (.ref fm8) = true) (lm8 : K.lookup fm8 = some ⟨ocm8, odm8, .func (PySem.W.fnOf "nth" "Holder.nth" (defArgs sNth) (defBody sNth) (defScope sNth) .none kVm8 dcm8 pmm8 anm8 cdm8 ctm8), slm8⟩) (cm8 : PySem.W.codeIn K cdm8 "Holder.nth" = true) (km8 : PySem.W.keepIn K (.ref fm8) = true)
    (am9 : PySem.W.findIn K (.ref C) "steps" = some (some (.ref fm9))) (im9 : PySem.W.isFn K (.ref fm9) = true) (lm9 : K.lookup fm9 = some ⟨ocm9, odm9, .func (PySem.W.fnOf "steps" "Holder.steps" (defArgs sSteps) (defBody sSteps) (defScope sSteps) .none kVm9 dcm9 pmm9 anm9 cdm9 ctm9), slm9⟩) (cm9 : PySem.W.codeIn K cdm9 "Holder.steps" = true) (km9 : PySem.W.keepIn K (.ref fm9) = true)
    (am10 : PySem.W.findIn K (.ref C) "alone" = some (some (.ref fm10))) (im10 : PySem.W.isFn K (.ref fm10) = true) (lm10 : K.lookup fm10 = some ⟨ocm10, odm10, .func (PySem.W.fnOf "alone" "Holder.alone" (defArgs sAlone) (defBody sAlone) (defScope sAlone) .none kVm10 dcm10 pmm10 anm10 cdm10 ctm10), slm10⟩) (cm10 : PySem.W.codeIn K cdm10 "Holder.alone" = true) (km10 : PySem.W.keepIn K (.ref fm10) = true)
    (am11 : PySem.W.findIn K (.ref C) "by" = some (some (.ref fm11))) (im11 : PySem.W.isFn K (.ref fm11) = true) (lm11 : K.lookup fm11 = some ⟨ocm11, odm11, .func (PySem.W.fnOf "by" "Holder.by" (defArgs sBy) (defBody sBy) (defScope sBy) .none kVm11 dcm11 pmm11 anm11 cdm11 ctm11), slm11⟩) (cm11 : PySem.W.codeIn K cdm11 "Holder.by" = true) (km11 : PySem.W.keepIn K (.ref fm11) = true)
    (am12 : PySem.W.findIn K (.ref C) "first" = some (some (.ref fm12))) (im12 : PySem.W.isFn K (.ref fm12) = true) (lm12 : K.lookup fm12 = some ⟨ocm12, odm12, .func (PySem.W.fnOf "first" "Holder.first" (defArgs sFirst) (defBody sFirst) (defScope sFirst) .none kVm12 dcm12 pmm12 anm12 cdm12 ctm12), slm12⟩) (cm12 : PySem.W.codeIn K cdm12 "Holder.first" = true) (km12 : PySem.W.keepIn K (.ref fm12) = true)
    (am13 : PySem.W.findIn K (.ref C) "brought" = some (some (.ref fm13))) (im13 : PySem.W.isFn K (.ref fm13) = true) (lm13 : K.lookup fm13 = some ⟨ocm13, odm13, .func (PySem.W.fnOf "brought" "Holder.brought" (defArgs sBrought) (defBody sBrought) (defScope sBrought) .none kVm13 dcm13 pmm13 anm13 cdm13 ctm13), slm13⟩) (cm13 : PySem.W.codeIn K cdm13 "Holder.brought" = true) (km13 : PySem.W.keepIn K (.ref fm13) = true)
    {t0 t1 t2 t3 t4 t5 t6 t7 t8 t9 t10 t11 t12 t13 t14 t15 t16 t17 t18 : Tok}
    (g0 : PySem.W.nsIn K mainGlobals "NOTHING_TAKEN" = some (some (.int (-11) t0)))
    (g1 : PySem.W.nsIn K mainGlobals "NOT_AS_TOLD" = some (some (.int (-22) t1)))
    (g2 : PySem.W.nsIn K mainGlobals "TOO_MANY" = some (some (.int (-28) t2)))
    (g3 : PySem.W.nsIn K mainGlobals "NO_MORE" = some (some (.int (-33) t3)))
    (g4 : PySem.W.nsIn K mainGlobals "MOST_TAKEN" = some (some (.int 7 t4)))
    (g5 : PySem.W.nsIn K mainGlobals "MOST_BROUGHT" = some (some (.int 6 t5)))
    (g6 : PySem.W.nsIn K mainGlobals "MOST_COMPARED" = some (some (.int 5 t6)))
    (g7 : PySem.W.nsIn K mainGlobals "MOST_DOUBLED" = some (some (.int 3 t7)))
    (g8 : PySem.W.nsIn K mainGlobals "TAKE" = some (some (.int 0 t8)))
    (g9 : PySem.W.nsIn K mainGlobals "LINE" = some (some (.int 1 t9)))
    (g10 : PySem.W.nsIn K mainGlobals "TURN" = some (some (.int 2 t10)))
    (g11 : PySem.W.nsIn K mainGlobals "DOUBLE" = some (some (.int 3 t11)))
    (g12 : PySem.W.nsIn K mainGlobals "BRINGS" = some (some (.int 4 t12)))
    (g13 : PySem.W.nsIn K mainGlobals "TYPES" = some (some (.int 5 t13)))
    (g14 : PySem.W.nsIn K mainGlobals "NTH" = some (some (.int 6 t14)))
    (g15 : PySem.W.nsIn K mainGlobals "STEPS" = some (some (.int 7 t15)))
    (g16 : PySem.W.nsIn K mainGlobals "ALONE" = some (some (.int 8 t16)))
    (g17 : PySem.W.nsIn K mainGlobals "BY" = some (some (.int 9 t17)))
    (g18 : PySem.W.nsIn K mainGlobals "FIRST" = some (some (.int 10 t18)))
    (ylen : PySem.W.nsIn K mainGlobals "len" = some none) (yrange : PySem.W.nsIn K mainGlobals "range" = some none) (ysorted : PySem.W.nsIn K mainGlobals "sorted" = some none) (ylist : PySem.W.nsIn K mainGlobals "list" = some none) (ymin : PySem.W.nsIn K mainGlobals "min" = some none) (ymax : PySem.W.nsIn K mainGlobals "max" = some none) (yenumerate : PySem.W.nsIn K mainGlobals "enumerate" = some none) (yabs : PySem.W.nsIn K mainGlobals "abs" = some none) (yset : PySem.W.nsIn K mainGlobals "set" = some none) (ytuple : PySem.W.nsIn K mainGlobals "tuple" = some none)
    (aC : PySem.W.nsIn K mainGlobals "Holder" = some (some (.ref C))) (aNs : PySem.W.nsIn K mainGlobals "NUMBERS" = some (some (.ref aN))) {dN : Option Addr} {nN : Nat} {slN : Array (Option Value)} {q0 q1 q2 q3 q4 q5 q6 q7 q8 q9 q10 q11 : Tok} (lN : K.lookup aN = some ⟨.type "tuple", dN, .seq #[.int 0 q0, .int 0 q1, .int 0 q2, .int 0 q3, .int 0 q4, .int 1 q5, .int 2 q6, .int 0 q7, .int 0 q8, .int 1 q9, .int 1 q10, .int 0 q11] nN, slN⟩)
    (hd : PySem.W.hasDictIn K C = true) (pg : PySem.W.plainGet K C Str.empty = true) (po : PySem.W.plainOver K C = true) (sa : PySem.W.findIn K (.ref C) "__setattr__" = some (some (.builtin "object.__setattr__"))) (mk : PySem.W.makesIn K C = true) (kc : PySem.W.keepIn K (.ref C) = true)
    (nK : PySem.W.findIn K (.ref C) "kind" = some none) (nN : PySem.W.findIn K (.ref C) "known" = some none) :
    ∃ fd : FuncData, (∀ (s : Shared) (us : List Value), us.length = (["calls"] : List Str).length → BindsTo s fd ⟨us, []⟩ ((["calls"] : List Str).zip us)) ∧ ∀ base : Heap, K.In base → base.Ns mainGlobals mg → FnOk P w K mg base CX0 7 fa fd ["calls"] (spAns K) := by
  cases hfa.symm.trans (PySem.W.mg_of X G ad15)
  have T : Txt K mg C := ⟨⟨pg, hd, po, sa⟩, nK, nN⟩
  have Fd0 := fun_mk (st := sIsKind) ld0 cd0 kd0
  have bd0 := Fd0.binds (ps := ["row", "most"]) fun _ _ _ _ _ _ us hl => match us, hl with | [_, _], _ => rfl
  have Dd0 : Def1 K mg "is_kind" fd0 _ ["row", "most"] := ⟨kd0, bd0, PySem.W.mg_of X G ad0⟩
  have Fd1 := fun_mk (st := sKindsOf) ld1 cd1 kd1
  have bd1 := Fd1.binds (ps := ["steps"]) fun _ _ _ _ _ _ us hl => match us, hl with | [_], _ => rfl
  have Dd1 : Def1 K mg "kinds_of" fd1 _ ["steps"] := ⟨kd1, bd1, PySem.W.mg_of X G ad1⟩
  have Fd2 := fun_mk (st := sBegun) ld2 cd2 kd2
  have bd2 := Fd2.binds (ps := ["row"]) fun _ _ _ _ _ _ us hl => match us, hl with | [_], _ => rfl
  have Dd2 : Def1 K mg "begun_at_least" fd2 _ ["row"] := ⟨kd2, bd2, PySem.W.mg_of X G ad2⟩
  have Fd3 := fun_mk (st := sTurned) ld3 cd3 kd3
  have bd3 := Fd3.binds (ps := ["kind"]) fun _ _ _ _ _ _ us hl => match us, hl with | [_], _ => rfl
  have Dd3 : Def1 K mg "turned" fd3 _ ["kind"] := ⟨kd3, bd3, PySem.W.mg_of X G ad3⟩
  have Fd4 := fun_mk (st := sDoubled) ld4 cd4 kd4
  have bd4 := Fd4.binds (ps := ["kind"]) fun _ _ _ _ _ _ us hl => match us, hl with | [_], _ => rfl
  have Dd4 : Def1 K mg "doubled" fd4 _ ["kind"] := ⟨kd4, bd4, PySem.W.mg_of X G ad4⟩
  have Fd5 := fun_mk (st := sLineOf) ld5 cd5 kd5
  have bd5 := Fd5.binds (ps := ["kind"]) fun _ _ _ _ _ _ us hl => match us, hl with | [_], _ => rfl
  have Dd5 : Def1 K mg "line_of" fd5 _ ["kind"] := ⟨kd5, bd5, PySem.W.mg_of X G ad5⟩
  have Fd6 := fun_mk (st := sSlopes) ld6 cd6 kd6
  have bd6 := Fd6.binds (ps := ["line"]) fun _ _ _ _ _ _ us hl => match us, hl with | [_], _ => rfl
  have Dd6 : Def1 K mg "slopes_of" fd6 _ ["line"] := ⟨kd6, bd6, PySem.W.mg_of X G ad6⟩
  have Fd7 := fun_mk (st := sShifts) ld7 cd7 kd7
  have bd7 := Fd7.binds (ps := ["line", "slopes"]) fun _ _ _ _ _ _ us hl => match us, hl with | [_, _], _ => rfl
  have Dd7 : Def1 K mg "shifts_of" fd7 _ ["line", "slopes"] := ⟨kd7, bd7, PySem.W.mg_of X G ad7⟩
  have Fd8 := fun_mk (st := sCovers) ld8 cd8 kd8
  have bd8 := Fd8.binds (ps := ["line"]) fun _ _ _ _ _ _ us hl => match us, hl with | [_], _ => rfl
  have Dd8 : Def1 K mg "covers_of" fd8 _ ["line"] := ⟨kd8, bd8, PySem.W.mg_of X G ad8⟩
  have Fd9 := fun_mk (st := sWays) ld9 cd9 kd9
  have bd9 := Fd9.binds (ps := ["start", "covers", "steps"]) fun _ _ _ _ _ _ us hl => match us, hl with | [_, _, _], _ => rfl
  have Dd9 : Def1 K mg "ways_round" fd9 _ ["start", "covers", "steps"] := ⟨kd9, bd9, PySem.W.mg_of X G ad9⟩
  have Fd10 := fun_mk (st := sPlaces) ld10 cd10 kd10
  have bd10 := Fd10.binds (ps := ["way", "slopes", "shifts"]) fun _ _ _ _ _ _ us hl => match us, hl with | [_, _, _], _ => rfl
  have Dd10 : Def1 K mg "places_along" fd10 _ ["way", "slopes", "shifts"] := ⟨kd10, bd10, PySem.W.mg_of X G ad10⟩
  have Fd11 := fun_mk (st := sKindOf) ld11 cd11 kd11
  have bd11 := Fd11.binds (ps := ["places"]) fun _ _ _ _ _ _ us hl => match us, hl with | [_], _ => rfl
  have Dd11 : Def1 K mg "kind_of" fd11 _ ["places"] := ⟨kd11, bd11, PySem.W.mg_of X G ad11⟩
  have Fd12 := fun_mk (st := sKinds) ld12 cd12 kd12
  have bd12 := Fd12.binds (ps := ["kind", "steps"]) fun _ _ _ _ _ _ us hl => match us, hl with | [_, _], _ => rfl
  have Dd12 : Def1 K mg "kinds_brought" fd12 _ ["kind", "steps"] := ⟨kd12, bd12, PySem.W.mg_of X G ad12⟩
  have Fd13 := fun_mk (st := sAnswerOf) ld13 cd13 kd13
  have bd13 := Fd13.binds (ps := ["holder", "call", "numbers", "row"]) fun _ _ _ _ _ _ us hl => match us, hl with | [_, _, _, _], _ => rfl
  have Dd13 : Def1 K mg "answer_of" fd13 _ ["holder", "call", "numbers", "row"] := ⟨kd13, bd13, PySem.W.mg_of X G ad13⟩
  have Fd14 := fun_mk (st := sApart) ld14 cd14 kd14
  have bd14 := Fd14.binds (ps := ["calls"]) fun _ _ _ _ _ _ us hl => match us, hl with | [_], _ => rfl
  have Dd14 : Def1 K mg "calls_apart" fd14 _ ["calls"] := ⟨kd14, bd14, PySem.W.mg_of X G ad14⟩
  have Fd15 := fun_mk (st := sAnswers) ld15 cd15 kd15
  have bd15 := Fd15.binds (ps := ["calls"]) fun _ _ _ _ _ _ us hl => match us, hl with | [_], _ => rfl
  have Fm0 := fun_mk (st := sInit) lm0 cm0 km0
  have bm0 := Fm0.binds (ps := ["self"]) fun _ _ _ _ _ _ us hl => match us, hl with | [_], _ => rfl
  have Fm1 := fun_mk (st := sTake) lm1 cm1 km1
  have bm1 := Fm1.binds (ps := ["self", "row"]) fun _ _ _ _ _ _ us hl => match us, hl with | [_, _], _ => rfl
  have Fm2 := fun_mk (st := sLine) lm2 cm2 km2
  have bm2 := Fm2.binds (ps := ["self"]) fun _ _ _ _ _ _ us hl => match us, hl with | [_], _ => rfl
  have Fm3 := fun_mk (st := sShow) lm3 cm3 km3
  have bm3 := Fm3.binds (ps := ["self"]) fun _ _ _ _ _ _ us hl => match us, hl with | [_], _ => rfl
  have Fm4 := fun_mk (st := sTurn) lm4 cm4 km4
  have bm4 := Fm4.binds (ps := ["self"]) fun _ _ _ _ _ _ us hl => match us, hl with | [_], _ => rfl
  have Fm5 := fun_mk (st := sDouble) lm5 cm5 km5
  have bm5 := Fm5.binds (ps := ["self"]) fun _ _ _ _ _ _ us hl => match us, hl with | [_], _ => rfl
  have Fm6 := fun_mk (st := sBrings) lm6 cm6 km6
  have bm6 := Fm6.binds (ps := ["self", "row"]) fun _ _ _ _ _ _ us hl => match us, hl with | [_, _], _ => rfl
  have Fm7 := fun_mk (st := sTypes) lm7 cm7 km7
  have bm7 := Fm7.binds (ps := ["self", "steps"]) fun _ _ _ _ _ _ us hl => match us, hl with | [_, _], _ => rfl
  have Fm8 := fun_mk (st := sNth) lm8 cm8 km8
  have bm8 := Fm8.binds (ps := ["self", "steps", "before"]) fun _ _ _ _ _ _ us hl => match us, hl with | [_, _, _], _ => rfl
  have Fm9 := fun_mk (st := sSteps) lm9 cm9 km9
  have bm9 := Fm9.binds (ps := ["self"]) fun _ _ _ _ _ _ us hl => match us, hl with | [_], _ => rfl
  have Fm10 := fun_mk (st := sAlone) lm10 cm10 km10
  have bm10 := Fm10.binds (ps := ["self"]) fun _ _ _ _ _ _ us hl => match us, hl with | [_], _ => rfl
  have Fm11 := fun_mk (st := sBy) lm11 cm11 km11
  have bm11 := Fm11.binds (ps := ["self", "steps"]) fun _ _ _ _ _ _ us hl => match us, hl with | [_, _], _ => rfl
  have Fm12 := fun_mk (st := sFirst) lm12 cm12 km12
  have bm12 := Fm12.binds (ps := ["self", "steps"]) fun _ _ _ _ _ _ us hl => match us, hl with | [_, _], _ => rfl
  have Fm13 := fun_mk (st := sBrought) lm13 cm13 km13
  have bm13 := Fm13.binds (ps := ["self", "kind", "steps"]) fun _ _ _ _ _ _ us hl => match us, hl with | [_, _, _], _ => rfl
  have zlen := PySem.W.mg_none_of X G ylen
  have zrange := PySem.W.mg_none_of X G yrange
  have zsorted := PySem.W.mg_none_of X G ysorted
  have zlist := PySem.W.mg_none_of X G ylist
  have zmin := PySem.W.mg_none_of X G ymin
  have zmax := PySem.W.mg_none_of X G ymax
  have zenumerate := PySem.W.mg_none_of X G yenumerate
  have zabs := PySem.W.mg_none_of X G yabs
  have zset := PySem.W.mg_none_of X G yset
  have ztuple := PySem.W.mg_none_of X G ytuple
  have g0' := int_of X G g0
  have g1' := int_of X G g1
  have g2' := int_of X G g2
  have g3' := int_of X G g3
  have g4' := int_of X G g4
  have g5' := int_of X G g5
  have g6' := int_of X G g6
  have g7' := int_of X G g7
  have g8' := int_of X G g8
  have g9' := int_of X G g9
  have g10' := int_of X G g10
  have g11' := int_of X G g11
  have g12' := int_of X G g12
  have g13' := int_of X G g13
  have g14' := int_of X G g14
  have g15' := int_of X G g15
  have g16' := int_of X G g16
  have g17' := int_of X G g17
  have g18' := int_of X G g18
  refine ⟨PySem.W.fnOf "answers" "answers" (defArgs sAnswers) (defBody sAnswers) (defScope sAnswers) .none kVd15 dcd15 pmd15 and15 cdd15 ctd15, fun s us hu => match us, hu with | [_], _ => .of_eq rfl, fun base _ _ => ?_⟩
  have Gik := ok_isKind (P := P) (w := w) (mg := mg) (base := base) Fd0 zlen zrange zsorted zlist
  have Gko := ok_kindsOf (P := P) (w := w) (mg := mg) (base := base) Fd1 zrange
  have Gbe := ok_begun (P := P) (w := w) (mg := mg) (base := base) Fd2 zmin
  have Gtu := ok_turned (P := P) (w := w) (mg := mg) (base := base) Fd3 Gbe kd2 bd2 Dd2.gl zlen
  have Gdo := ok_doubled (P := P) (w := w) (mg := mg) (base := base) Fd4
  have Gli := ok_lineE (P := P) (w := w) (mg := mg) (base := base) Fd5 zlen zenumerate
  have Gsl := ok_slopes (P := P) (w := w) (mg := mg) (base := base) Fd6 zlen zrange
  have Gsh := ok_shifts (P := P) (w := w) (mg := mg) (base := base) Fd7 zenumerate
  have Gco := ok_covers (P := P) (w := w) (mg := mg) (base := base) Fd8 zlen zrange zmin zmax zlist
  have Gwa := ok_ways (P := P) (w := w) (mg := mg) (base := base) Fd9 zrange
  have Gpl := ok_places (P := P) (w := w) (mg := mg) (base := base) Fd10 zabs
  have Gki := ok_kindOf (P := P) (w := w) (mg := mg) (base := base) Fd11 Gbe kd2 bd2 Dd2.gl zsorted ztuple
  have Gkb := ok_kinds (P := P) (w := w) (mg := mg) (base := base) Fd12 Gli Dd5 Gsl Dd6 Gsh Dd7 Gco Dd8 Gwa Dd9 Gpl Dd10 Gki Dd11 zlen zrange zset zsorted zlist
  have Mbr : Meth K C "brought" fm13 := ⟨am13, im13, km13⟩
  have Msh : Meth K C "show" fm3 := ⟨am3, im3, km3⟩
  have Gin := ok_init (P := P) (w := w) (mg := mg) (base := base) Fm0 T
  have Gbr := ok_brought (P := P) (w := w) (mg := mg) (base := base) Fm13 T Gkb Dd12 ztuple
  have Gsw := ok_mshow (P := P) (w := w) (mg := mg) (base := base) Fm3 T zlen
  have G0 := ok_mtake (P := P) (w := w) (mg := mg) (base := base) Fm1 T Gik Dd0 zlen g4' g1'
  have G1 := ok_mline (P := P) (w := w) (mg := mg) (base := base) Fm2 T Gli Dd5 zlen
  have G2 := ok_mturn (P := P) (w := w) (mg := mg) (base := base) Fm4 T Gtu Dd3 Gsw Msh bm3
  have G3 := ok_mdouble (P := P) (w := w) (mg := mg) (base := base) Fm5 T Gdo Dd4 Gsw Msh bm3 zlen g7' g2'
  have G4 := ok_mbrings (P := P) (w := w) (mg := mg) (base := base) Fm6 T Gbr Mbr bm13 Gik Dd0 zlen ztuple g5' g1'
  have G5 := ok_mtypes (P := P) (w := w) (mg := mg) (base := base) Fm7 T Gbr Mbr bm13 zlen g5' g1'
  have G6 := ok_mnth (P := P) (w := w) (mg := mg) (base := base) Fm8 T Gbr Mbr bm13 zlen zlist g5' g1' g3'
  have G7 := ok_msteps (P := P) (w := w) (mg := mg) (base := base) Fm9 T Gbr Mbr bm13 zlen zrange g5'
  have G8 := ok_malone (P := P) (w := w) (mg := mg) (base := base) Fm10 T Gbr Mbr bm13 zlen g5' g2'
  have G9 := ok_mby (P := P) (w := w) (mg := mg) (base := base) Fm11 T Gbr Mbr bm13 Gko Dd1 zlen ztuple zlist g6' g1' g2'
  have G10 := ok_mfirst (P := P) (w := w) (mg := mg) (base := base) Fm12 T Gbr Mbr bm13 Gko Dd1 zlen g6' g1'
  have Gao := ok_answerOf (P := P) (w := w) (mg := mg) (base := base) Fd13 T ⟨G0.mono (by decide), ⟨am1, im1, km1⟩, bm1⟩ ⟨G1.mono (by decide), ⟨am2, im2, km2⟩, bm2⟩ ⟨G2.mono (by decide), ⟨am4, im4, km4⟩, bm4⟩ ⟨G3.mono (by decide), ⟨am5, im5, km5⟩, bm5⟩ ⟨G4.mono (by decide), ⟨am6, im6, km6⟩, bm6⟩ ⟨G5.mono (by decide), ⟨am7, im7, km7⟩, bm7⟩ ⟨G6.mono (by decide), ⟨am8, im8, km8⟩, bm8⟩ ⟨G7.mono (by decide), ⟨am9, im9, km9⟩, bm9⟩ ⟨G8.mono (by decide), ⟨am10, im10, km10⟩, bm10⟩ ⟨G9.mono (by decide), ⟨am11, im11, km11⟩, bm11⟩ ⟨G10.mono (by decide), ⟨am12, im12, km12⟩, bm12⟩ ⟨Gsw.mono (by decide), ⟨am3, im3, km3⟩, bm3⟩ zlen g8' g9' g10' g11' g12' g13' g14' g15' g16' g17' g18' g0'
  have Gap := ok_apart (P := P) (w := w) (mg := mg) (base := base) Fd14 zlen g8' g12' (PySem.W.mg_of X G aNs) (nums_at lN)
  exact ok_answers Fd15 ⟨mk, am0, im0, kc⟩ Gin bm0 (PySem.W.mg_of X G aC) Gap Dd14 Gao Dd13 zlen
end Rt

open PySem PySem.W PyProof.Rows
set_option maxRecDepth 100000 in
set_option maxHeartbeats 8000000 in
theorem PySem.Challenge.cw_roundtypes_s01_answers_holds : PySem.Challenge.rw_roundtypes_s01_answers.Holds := by
  w_on; k_headS; (case hw => exact ⟨[.list [.int 1]], by decide +kernel, by decide +kernel⟩)
  k_fillS
  refine L2.walk_specK (r := PySem.Challenge.rw_roundtypes_s01_answers) (k := 7) (CX := L2.CX0) (ps := ["calls"]) (sp := Rt.spAns) (by decide +kernel) rfl rfl ⟨rfl, by decide, by decide⟩ (fun w h Y => PySem.W.kIn_of Y) ?F ?S (fun _ _ _ _ z => z)
  case F =>
    intro w mg fa h Y KX G hmg
    refine' Rt.all_mk KX G hmg ?u_ad0 ?u_ld0 ?u_cd0 ?u_kd0 ?u_ad1 ?u_ld1 ?u_cd1 ?u_kd1 ?u_ad2 ?u_ld2 ?u_cd2 ?u_kd2 ?u_ad3 ?u_ld3 ?u_cd3 ?u_kd3 ?u_ad4 ?u_ld4 ?u_cd4 ?u_kd4 ?u_ad5 ?u_ld5 ?u_cd5 ?u_kd5 ?u_ad6 ?u_ld6 ?u_cd6 ?u_kd6 ?u_ad7 ?u_ld7 ?u_cd7 ?u_kd7 ?u_ad8 ?u_ld8 ?u_cd8 ?u_kd8 ?u_ad9 ?u_ld9 ?u_cd9 ?u_kd9 ?u_ad10 ?u_ld10 ?u_cd10 ?u_kd10 ?u_ad11 ?u_ld11 ?u_cd11 ?u_kd11 ?u_ad12 ?u_ld12 ?u_cd12 ?u_kd12 ?u_ad13 ?u_ld13 ?u_cd13 ?u_kd13 ?u_ad14 ?u_ld14 ?u_cd14 ?u_kd14 ?u_ad15 ?u_ld15 ?u_cd15 ?u_kd15 ?u_am0 ?u_im0 ?u_lm0 ?u_cm0 ?u_km0 ?u_am1 ?u_im1 ?u_lm1 ?u_cm1 ?u_km1 ?u_am2 ?u_im2 ?u_lm2 ?u_cm2 ?u_km2 ?u_am3 ?u_im3 ?u_lm3 ?u_cm3 ?u_km3 ?u_am4 ?u_im4 ?u_lm4 ?u_cm4 ?u_km4 ?u_am5 ?u_im5 ?u_lm5 ?u_cm5 ?u_km5 ?u_am6 ?u_im6 ?u_lm6 ?u_cm6 ?u_km6 ?u_am7 ?u_im7 ?u_lm7 ?u_cm7 ?u_km7 ?u_am8 ?u_im8 ?u_lm8 ?u_cm8 ?u_km8 ?u_am9 ?u_im9 ?u_lm9 ?u_cm9 ?u_km9 ?u_am10 ?u_im10 ?u_lm10 ?u_cm10 ?u_km10 ?u_am11 ?u_im11 ?u_lm11 ?u_cm11 ?u_km11 ?u_am12 ?u_im12 ?u_lm12 ?u_cm12 ?u_km12 ?u_am13 ?u_im13 ?u_lm13 ?u_cm13 ?u_km13 ?u_g0 ?u_g1 ?u_g2 ?u_g3 ?u_g4 ?u_g5 ?u_g6 ?u_g7 ?u_g8 ?u_g9 ?u_g10 ?u_g11 ?u_g12 ?u_g13 ?u_g14 ?u_g15 ?u_g16 ?u_g17 ?u_g18 ?u_ylen ?u_yrange ?u_ysorted ?u_ylist ?u_ymin ?u_ymax ?u_yenumerate ?u_yabs ?u_yset ?u_ytuple ?u_aC ?u_aNs ?u_lN ?u_hd ?u_pg ?u_po ?u_sa ?u_mk ?u_kc ?u_nK ?u_nN
    (case u_aC => k_is); (case u_ad0 => k_is); (case u_ld0 => k_is); (case u_cd0 => k_is); (case u_kd0 => k_is); (case u_ad1 => k_is)
    (case u_ld1 => k_is); (case u_cd1 => k_is); (case u_kd1 => k_is); (case u_ad2 => k_is); (case u_ld2 => k_is); (case u_cd2 => k_is)
    (case u_kd2 => k_is); (case u_ad3 => k_is); (case u_ld3 => k_is); (case u_cd3 => k_is); (case u_kd3 => k_is); (case u_ad4 => k_is)
    (case u_ld4 => k_is); (case u_cd4 => k_is); (case u_kd4 => k_is); (case u_ad5 => k_is); (case u_ld5 => k_is); (case u_cd5 => k_is)
    (case u_kd5 => k_is); (case u_ad6 => k_is); (case u_ld6 => k_is); (case u_cd6 => k_is); (case u_kd6 => k_is); (case u_ad7 => k_is)
    (case u_ld7 => k_is); (case u_cd7 => k_is); (case u_kd7 => k_is); (case u_ad8 => k_is); (case u_ld8 => k_is); (case u_cd8 => k_is)
    (case u_kd8 => k_is); (case u_ad9 => k_is); (case u_ld9 => k_is); (case u_cd9 => k_is); (case u_kd9 => k_is); (case u_ad10 => k_is)
    (case u_ld10 => k_is); (case u_cd10 => k_is); (case u_kd10 => k_is); (case u_ad11 => k_is); (case u_ld11 => k_is); (case u_cd11 => k_is)
    (case u_kd11 => k_is); (case u_ad12 => k_is); (case u_ld12 => k_is); (case u_cd12 => k_is); (case u_kd12 => k_is); (case u_ad13 => k_is)
    (case u_ld13 => k_is); (case u_cd13 => k_is); (case u_kd13 => k_is); (case u_ad14 => k_is); (case u_ld14 => k_is); (case u_cd14 => k_is)
    (case u_kd14 => k_is); (case u_ad15 => k_is); (case u_ld15 => k_is); (case u_cd15 => k_is); (case u_kd15 => k_is); (case u_am0 => k_is)
    (case u_im0 => k_is); (case u_lm0 => k_is); (case u_cm0 => k_is); (case u_km0 => k_is); (case u_am1 => k_is); (case u_im1 => k_is)
    (case u_lm1 => k_is); (case u_cm1 => k_is); (case u_km1 => k_is); (case u_am2 => k_is); (case u_im2 => k_is); (case u_lm2 => k_is)
    (case u_cm2 => k_is); (case u_km2 => k_is); (case u_am3 => k_is); (case u_im3 => k_is); (case u_lm3 => k_is); (case u_cm3 => k_is)
    (case u_km3 => k_is); (case u_am4 => k_is); (case u_im4 => k_is); (case u_lm4 => k_is); (case u_cm4 => k_is); (case u_km4 => k_is)
    (case u_am5 => k_is); (case u_im5 => k_is); (case u_lm5 => k_is); (case u_cm5 => k_is); (case u_km5 => k_is); (case u_am6 => k_is)
    (case u_im6 => k_is); (case u_lm6 => k_is); (case u_cm6 => k_is); (case u_km6 => k_is); (case u_am7 => k_is); (case u_im7 => k_is)
    (case u_lm7 => k_is); (case u_cm7 => k_is); (case u_km7 => k_is); (case u_am8 => k_is); (case u_im8 => k_is); (case u_lm8 => k_is)
    (case u_cm8 => k_is); (case u_km8 => k_is); (case u_am9 => k_is); (case u_im9 => k_is); (case u_lm9 => k_is); (case u_cm9 => k_is)
    (case u_km9 => k_is); (case u_am10 => k_is); (case u_im10 => k_is); (case u_lm10 => k_is); (case u_cm10 => k_is); (case u_km10 => k_is)
    (case u_am11 => k_is); (case u_im11 => k_is); (case u_lm11 => k_is); (case u_cm11 => k_is); (case u_km11 => k_is); (case u_am12 => k_is)
    (case u_im12 => k_is); (case u_lm12 => k_is); (case u_cm12 => k_is); (case u_km12 => k_is); (case u_am13 => k_is); (case u_im13 => k_is)
    (case u_lm13 => k_is); (case u_cm13 => k_is); (case u_km13 => k_is); (case u_g0 => k_is); (case u_g1 => k_is); (case u_g2 => k_is)
    (case u_g3 => k_is); (case u_g4 => k_is); (case u_g5 => k_is); (case u_g6 => k_is); (case u_g7 => k_is); (case u_g8 => k_is)
    (case u_g9 => k_is); (case u_g10 => k_is); (case u_g11 => k_is); (case u_g12 => k_is); (case u_g13 => k_is); (case u_g14 => k_is)
    (case u_g15 => k_is); (case u_g16 => k_is); (case u_g17 => k_is); (case u_g18 => k_is); (case u_ylen => k_is); (case u_yrange => k_is)
    (case u_ysorted => k_is); (case u_ylist => k_is); (case u_ymin => k_is); (case u_ymax => k_is); (case u_yenumerate => k_is); (case u_yabs => k_is)
    (case u_yset => k_is); (case u_ytuple => k_is); (case u_aNs => k_is); (case u_lN => k_is); (case u_hd => k_is); (case u_pg => k_is)
    (case u_po => k_is); (case u_sa => k_is); (case u_mk => k_is); (case u_kc => k_is); (case u_nK => k_is); (case u_nN => k_is)
  case S =>
    intro K H xs a hO hwi hask hx
    cases hx with
    | cons h1 h2 =>
      cases h2
      cases h1 with
      | lst hs ha =>
        have e := L2.ints_dw a.1 _ ha
        subst e
        have q : ((Codec.inLen 0 4800 a.1 && a.1.all (Codec.inInt 0 4294967295)) && true) = true := hwi
        rw [Bool.and_eq_true, Bool.and_eq_true] at q
        exact ⟨_, a.1, rfl, hs, (Codec.inNat_iff.mp q.1.1).2, fun x hx => PySem.W.Codec.inInt_iff.mp (List.all_eq_true.mp q.1.2 x hx), hask, fun H' p hp => .lst (L2.SqL.of hp) (L2.dw_ints _)⟩

