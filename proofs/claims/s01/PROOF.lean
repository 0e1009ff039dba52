import PyProof.Rows.All
import PyNa02
import Wide.All
import OpenK.AllK
import Wide.FinOn
import Open.SpecLaws
import KE.OsGo
import HandS.ForMost
import HandS.ForSpec
import HandS.Evl
import HandS.SortOrd
import HandS.SortRule
import PySem.Challenge.RW_planenumbers_s01_answers
import HandS.TryMany
section
set_option autoImplicit false
namespace PN
open Na02
theorem z_ext {a b : Z} (h1 : a.x = b.x) (h2 : a.y = b.y) : a = b := by
  cases a; cases b; simp_all
theorem times_comm (k : Nat) (a b : Z) : times k a b = times k b a := by
  unfold times; split <;> (apply z_ext <;> simp only [] <;> grind)
theorem times_assoc (k : Nat) (a b c : Z) : times k (times k a b) c = times k a (times k b c) := by
  unfold times; split <;> (apply z_ext <;> simp only [] <;> grind)
theorem norm_times (k : Nat) (a b : Z) : norm k (times k a b) = norm k a * norm k b := by
  unfold times norm; split <;> simp only [] <;> grind
theorem norm_turned (k : Nat) (a : Z) : norm k (turned k a) = norm k a := by
  unfold turned norm; split <;> simp only [] <;> grind
theorem times_turned (k : Nat) (a : Z) : times k a (turned k a) = ⟨norm k a, 0⟩ := by
  unfold turned norm times; split <;> simp only [] <;> (apply z_ext <;> simp only [] <;> grind)
theorem scal (k : Nat) (n : Int) (c : Z) : times k ⟨n, 0⟩ c = ⟨n * c.x, n * c.y⟩ := by
  unfold times; split <;> (apply z_ext <;> simp only [] <;> grind)
theorem times_one (k : Nat) (a : Z) : times k a one = a := by
  unfold times one; split <;> (apply z_ext <;> simp only [] <;> grind)
theorem one_times (k : Nat) (a : Z) : times k one a = a := by rw [times_comm, times_one]
theorem zero_times (k : Nat) (a : Z) : times k zero a = zero := by
  unfold times zero; split <;> (apply z_ext <;> simp only [] <;> grind)
theorem times_zero (k : Nat) (a : Z) : times k a zero = zero := by rw [times_comm, zero_times]
theorem times_minus (k : Nat) (a b c : Z) : times k (minus a b) c = minus (times k a c) (times k b c) := by
  unfold times minus; split <;> (apply z_ext <;> simp only [] <;> grind)
theorem sqn (x : Int) : 0 ≤ x * x := by
  rcases Int.le_total 0 x with h | h
  · exact Int.mul_nonneg h h
  · exact Int.mul_nonneg_of_nonpos_of_nonpos h h
theorem norm_x (k : Nat) (a : Z) : 3 * (a.x * a.x) ≤ 4 * norm k a := by
  unfold norm; split
  · have h1 := sqn a.x
    have h2 := sqn a.y
    omega
  · have h1 := sqn (2 * a.y - a.x)
    have e : (2 * a.y - a.x) * (2 * a.y - a.x) = 4 * (a.y * a.y) - 4 * (a.x * a.y) + a.x * a.x := by grind
    omega
theorem norm_y (k : Nat) (a : Z) : 3 * (a.y * a.y) ≤ 4 * norm k a := by
  unfold norm; split
  · have h1 := sqn a.x
    have h2 := sqn a.y
    omega
  · have h1 := sqn (2 * a.x - a.y)
    have e : (2 * a.x - a.y) * (2 * a.x - a.y) = 4 * (a.x * a.x) - 4 * (a.x * a.y) + a.y * a.y := by grind
    omega
theorem norm_nonneg (k : Nat) (a : Z) : 0 ≤ norm k a := by
  have h1 := sqn a.x
  have h2 := norm_x k a
  omega
theorem sq_zero {x : Int} (h : x * x = 0) : x = 0 := by
  rcases Int.mul_eq_zero.mp h with h | h <;> exact h
theorem norm_zero (k : Nat) : norm k zero = 0 := by unfold norm zero; split <;> rfl
theorem eq_zero_of_norm {k : Nat} {a : Z} (h : norm k a = 0) : a = zero := by
  have h1 := sqn a.x
  have h2 := norm_x k a
  have h3 := sqn a.y
  have h4 := norm_y k a
  exact z_ext (sq_zero (by omega)) (sq_zero (by omega))
theorem norm_pos {k : Nat} {a : Z} (h : a ≠ zero) : 0 < norm k a := by
  have h1 := norm_nonneg k a
  rcases Int.lt_or_eq_of_le h1 with h2 | h2
  · exact h2
  · exact absurd (eq_zero_of_norm h2.symm) h
theorem ne_zero_of_norm {k : Nat} {a : Z} (h : norm k a ≠ 0) : a ≠ zero := by
  intro e; subst e; exact h (norm_zero k)
/-- bounds of the parts -/
theorem sq_le {x B : Int} (hB : 0 ≤ B) (h : x * x ≤ B * B) : -B ≤ x ∧ x ≤ B := by
  constructor
  · rcases Int.lt_or_le x (-B) with h1 | h1
    · exfalso
      have h2 : (B + 1) * (B + 1) ≤ (-x) * (-x) := Int.mul_le_mul (by omega) (by omega) (by omega) (by omega)
      have e1 : (-x) * (-x) = x * x := by grind
      have e2 : (B + 1) * (B + 1) = B * B + 2 * B + 1 := by grind
      omega
    · exact h1
  · rcases Int.lt_or_le B x with h1 | h1
    · exfalso
      have h2 : (B + 1) * (B + 1) ≤ x * x := Int.mul_le_mul (by omega) (by omega) (by omega) (by omega)
      have e2 : (B + 1) * (B + 1) = B * B + 2 * B + 1 := by grind
      omega
    · exact h1
/-- both parts within B -/
def Bd (B : Int) (a : Z) : Prop := (-B ≤ a.x ∧ a.x ≤ B) ∧ (-B ≤ a.y ∧ a.y ≤ B)
theorem Bd.mono {B C : Int} {a : Z} (h : Bd B a) (hc : B ≤ C) : Bd C a := by
  unfold Bd at *; omega
theorem bd_norm {k : Nat} {a : Z} {B : Int} (hB : 0 ≤ B) (h : 4 * norm k a ≤ 3 * (B * B)) : Bd B a :=
  ⟨sq_le hB (by have := norm_x k a; omega), sq_le hB (by have := norm_y k a; omega)⟩
theorem mul_bd {x y B C : Int} (hx : -B ≤ x ∧ x ≤ B) (hy : -C ≤ y ∧ y ≤ C) : -(B * C) ≤ x * y ∧ x * y ≤ B * C := by
  have h1 : 0 ≤ (B - x) * (C - y) := Int.mul_nonneg (by omega) (by omega)
  have h2 : 0 ≤ (B + x) * (C + y) := Int.mul_nonneg (by omega) (by omega)
  have h3 : 0 ≤ (B - x) * (C + y) := Int.mul_nonneg (by omega) (by omega)
  have h4 : 0 ≤ (B + x) * (C - y) := Int.mul_nonneg (by omega) (by omega)
  have e1 : (B - x) * (C - y) = B * C - B * y - x * C + x * y := by grind
  have e2 : (B + x) * (C + y) = B * C + B * y + x * C + x * y := by grind
  have e3 : (B - x) * (C + y) = B * C + B * y - x * C - x * y := by grind
  have e4 : (B + x) * (C - y) = B * C - B * y + x * C - x * y := by grind
  omega
theorem norm_bd {k : Nat} {a : Z} {B : Int} (h : Bd B a) : norm k a ≤ 3 * (B * B) := by
  have h1 := mul_bd h.1 h.1
  have h2 := mul_bd h.2 h.2
  have h3 := mul_bd h.1 h.2
  unfold norm; split <;> omega
theorem times_bd {k : Nat} {a b : Z} {B C : Int} (h : Bd B a) (g : Bd C b) : Bd (3 * (B * C)) (times k a b) := by
  have h1 := mul_bd h.1 g.1
  have h2 := mul_bd h.1 g.2
  have h3 := mul_bd h.2 g.1
  have h4 := mul_bd h.2 g.2
  unfold times; split <;> (unfold Bd; simp only []; omega)
theorem turned_bd {k : Nat} {a : Z} {B : Int} (h : Bd B a) : Bd (2 * B) (turned k a) := by
  obtain ⟨h1, h2⟩ := h
  unfold turned; split <;> (unfold Bd; simp only []; omega)
/-! dividing -/
theorem round_spec {n d : Int} (hd : 0 < d) : -d ≤ 2 * (n - d * round_ n d) ∧ 2 * (n - d * round_ n d) < d := by
  unfold round_
  rw [Int.fdiv_eq_ediv_of_nonneg _ (by omega)]
  have h1 := Int.mul_ediv_add_emod (2 * n + d) (2 * d)
  have h2 := Int.emod_nonneg (2 * n + d) (b := 2 * d) (by omega)
  have h3 := Int.emod_lt_of_pos (2 * n + d) (b := 2 * d) (by omega)
  have e : 2 * d * ((2 * n + d) / (2 * d)) = 2 * (d * ((2 * n + d) / (2 * d))) := by rw [Int.mul_assoc]
  omega
theorem round_mul {c d : Int} (hd : 0 < d) : round_ (d * c) d = c := by
  unfold round_
  rw [Int.fdiv_eq_ediv_of_nonneg _ (by omega)]
  have e : 2 * (d * c) + d = d + (2 * d) * c := by grind
  rw [e, Int.add_mul_ediv_left _ _ (by omega), Int.ediv_eq_zero_of_lt (by omega) (by omega)]
  omega
theorem rest_norm {k : Nat} {a b : Z} (hb : b ≠ zero) : norm k (rest k a b) < norm k b := by
  have hn : 0 < norm k b := norm_pos hb
  have key : times k (rest k a b) (turned k b) = ⟨(times k a (turned k b)).x - norm k b * (quot k a b).x, (times k a (turned k b)).y - norm k b * (quot k a b).y⟩ := by
    unfold rest
    rw [times_minus, times_comm k b (quot k a b), times_assoc, times_turned, times_comm k (quot k a b), scal]
    rfl
  have h1 := round_spec (n := (times k a (turned k b)).x) hn
  have h2 := round_spec (n := (times k a (turned k b)).y) hn
  have q1 : (quot k a b).x = round_ (times k a (turned k b)).x (norm k b) := rfl
  have q2 : (quot k a b).y = round_ (times k a (turned k b)).y (norm k b) := rfl
  have nn := congrArg (norm k) key
  rw [norm_times, norm_turned] at nn
  rw [q1, q2] at nn
  generalize (times k a (turned k b)).x - norm k b * round_ (times k a (turned k b)).x (norm k b) = e at *
  generalize (times k a (turned k b)).y - norm k b * round_ (times k a (turned k b)).y (norm k b) = f at *
  generalize norm k b = n at *
  generalize norm k (rest k a b) = r at *
  have p1 : 0 ≤ (n - 2 * e) * (n + 2 * e) := Int.mul_nonneg (by omega) (by omega)
  have p2 : 0 ≤ (n - 2 * f) * (n + 2 * f) := Int.mul_nonneg (by omega) (by omega)
  have p3 : 0 ≤ (n - 2 * e) * (n - 2 * f) := Int.mul_nonneg (by omega) (by omega)
  have p4 : 0 ≤ (n + 2 * e) * (n + 2 * f) := Int.mul_nonneg (by omega) (by omega)
  have p5 : 0 < n * n := Int.mul_pos hn hn
  have e1 : (n - 2 * e) * (n + 2 * e) = n * n - 4 * (e * e) := by grind
  have e2 : (n - 2 * f) * (n + 2 * f) = n * n - 4 * (f * f) := by grind
  have e3 : (n - 2 * e) * (n - 2 * f) = n * n - 2 * (n * e) - 2 * (n * f) + 4 * (e * f) := by grind
  have e4 : (n + 2 * e) * (n + 2 * f) = n * n + 2 * (n * e) + 2 * (n * f) + 4 * (e * f) := by grind
  have fin : r * n < n * n := by
    rw [nn]
    unfold norm; split <;> simp only [] <;> omega
  exact Int.lt_of_mul_lt_mul_right fin (by omega)
theorem times_cancel {k : Nat} {d a b : Z} (hd : d ≠ zero) (h : times k d a = times k d b) : a = b := by
  have h1 := congrArg (times k (turned k d)) h
  rw [← times_assoc, ← times_assoc, times_comm k (turned k d) d, times_turned, scal, scal] at h1
  have hn : norm k d ≠ 0 := by have := norm_pos (k := k) hd; omega
  injection h1 with h2 h3
  exact z_ext (Int.eq_of_mul_eq_mul_left hn h2) (Int.eq_of_mul_eq_mul_left hn h3)
theorem tt (k : Nat) (b c : Z) : times k (times k b c) (turned k b) = ⟨norm k b * c.x, norm k b * c.y⟩ := by
  rw [times_comm k b c, times_assoc, times_turned, times_comm, scal]
theorem quot_times {k : Nat} {b : Z} (c : Z) (hb : b ≠ zero) : quot k (times k b c) b = c := by
  have hn : 0 < norm k b := norm_pos hb
  unfold quot
  simp only [tt, round_mul hn]
theorem by_times {k : Nat} {b : Z} (c : Z) (hb : b ≠ zero) : by_ k (times k b c) b = c := by
  have hn : 0 < norm k b := norm_pos hb
  unfold by_
  simp only [tt, Int.mul_ediv_cancel_left _ (Int.ne_of_gt hn)]
theorem minus_self (a : Z) : minus a a = zero := by
  unfold minus zero; apply z_ext <;> simp
theorem minus_zero {a b : Z} (h : minus a b = zero) : a = b := by
  unfold minus zero at h
  injection h with h1 h2
  exact z_ext (by omega) (by omega)
theorem divides_iff {k : Nat} {a b : Z} : divides k b a = true ↔ ∃ c, a = times k b c := by
  unfold divides
  by_cases hb : b = zero
  · rw [if_pos hb]
    subst hb
    constructor
    · intro h
      exact ⟨zero, by rw [zero_times]; exact of_decide_eq_true h⟩
    · rintro ⟨c, rfl⟩
      rw [zero_times]; exact decide_eq_true rfl
  · rw [if_neg hb]
    have hn : 0 < norm k b := norm_pos hb
    simp only [Bool.and_eq_true, beq_iff_eq]
    constructor
    · rintro ⟨h1, h2⟩
      refine ⟨⟨(times k a (turned k b)).x / norm k b, (times k a (turned k b)).y / norm k b⟩, ?_⟩
      have ht : turned k b ≠ zero := ne_zero_of_norm (k := k) (by rw [norm_turned]; omega)
      refine times_cancel (k := k) ht ?_
      rw [← times_assoc, times_comm k (turned k b) b, times_turned, scal, times_comm k (turned k b) a]
      apply z_ext
      · simp only []; rw [Int.mul_ediv_cancel_of_emod_eq_zero h1]
      · simp only []; rw [Int.mul_ediv_cancel_of_emod_eq_zero h2]
    · rintro ⟨c, rfl⟩
      rw [tt]; simp
theorem rest_zero_iff {k : Nat} {a b : Z} (hb : b ≠ zero) : rest k a b = zero ↔ ∃ c, a = times k b c := by
  constructor
  · intro h
    exact ⟨quot k a b, minus_zero h⟩
  · rintro ⟨c, rfl⟩
    unfold rest
    rw [quot_times c hb, minus_self]
theorem rest_zero_dec {k : Nat} {a b : Z} (hb : b ≠ zero) : decide (rest k a b = zero) = divides k b a := by
  rw [Bool.eq_iff_iff, decide_eq_true_iff, rest_zero_iff hb, divides_iff]
theorem quot_of_divides {k : Nat} {a b : Z} (hb : b ≠ zero) (h : divides k b a = true) : quot k a b = by_ k a b ∧ a = times k b (by_ k a b) := by
  obtain ⟨c, rfl⟩ := divides_iff.mp h
  rw [quot_times c hb, by_times c hb]
  exact ⟨rfl, rfl⟩
end PN
namespace PN
open Na02
theorem round_bd {n d B : Int} (hd : 0 < d) (hB : -B ≤ n ∧ n ≤ B) : -(B + 1) ≤ round_ n d ∧ round_ n d ≤ B + 1 := by
  have h := round_spec (n := n) hd
  generalize round_ n d = r at *
  have e1 : d * (2 * r - 1) = 2 * (d * r) - d := by grind
  have e2 : d * (2 * r + 1) = 2 * (d * r) + d := by grind
  constructor
  · rcases Int.lt_or_le r (-(B + 1)) with q | q
    · exfalso
      have : d * (2 * r + 1) ≤ 1 * (2 * r + 1) := Int.mul_le_mul_of_nonpos_right (by omega) (by omega)
      omega
    · exact q
  · rcases Int.lt_or_le (B + 1) r with q | q
    · exfalso
      have : 1 * (2 * r - 1) ≤ d * (2 * r - 1) := Int.mul_le_mul_of_nonneg_right (by omega) (by omega)
      omega
    · exact q
theorem quot_bd {k : Nat} {a b : Z} {B C : Int} (hb : b ≠ zero) (ha : Bd B a) (h : Bd C b) : Bd (3 * (B * (2 * C)) + 1) (quot k a b) := by
  have h1 := times_bd (k := k) ha (turned_bd (k := k) h)
  exact ⟨round_bd (norm_pos hb) h1.1, round_bd (norm_pos hb) h1.2⟩
end PN
end
section
set_option autoImplicit false
namespace PN
open Na02
/-! forms -/
theorem first_ne {k : Nat} {a : Z} (h : first k a = true) : a ≠ zero := by
  intro e; subst e; unfold first zero at h; split at h <;> simp at h
theorem first0 {a : Z} : first 0 a = true ↔ 0 < a.x ∧ 0 ≤ a.y := by unfold first; simp
theorem first1 {k : Nat} {a : Z} (hk : k ≠ 0) : first k a = true ↔ a.y < a.x ∧ 0 ≤ a.y := by unfold first; simp [hk]
/-- the unit whose powers are all of them -/
def tn (k : Nat) : Z := if k = 0 then ⟨0, 1⟩ else ⟨1, 1⟩
theorem norm_tn (k : Nat) : norm k (tn k) = 1 := by unfold norm tn; split <;> rfl
def spin (k : Nat) : Nat → Z → Z
  | 0, a => a
  | n + 1, a => spin k n (times k a (tn k))
theorem norm_spin (k : Nat) : ∀ (n : Nat) (a : Z), norm k (spin k n a) = norm k a
  | 0, _ => rfl
  | n + 1, a => by
    show norm k (spin k n (times k a (tn k))) = _
    rw [norm_spin k n, norm_times, norm_tn, Int.mul_one]
/-- how many turns are left till the first part -/
def left (k : Nat) (a : Z) : Nat := if first k a then 0 else if first k (spin k 1 a) then 1 else if first k (spin k 2 a) then 2 else if first k (spin k 3 a) then 3 else if first k (spin k 4 a) then 4 else 5
theorem form_zero (k : Nat) : form k zero = zero := by
  by_cases h : k = 0
  · subst h; rfl
  · unfold form units; rw [if_neg h]
    simp only [List.map_cons, List.map_nil, zero_times]
    have : first k zero = false := by unfold first zero; simp [h]
    simp [this]
theorem spin_some {k : Nat} {a : Z} (h : a ≠ zero) : first k (spin k (left k a) a) = true := by
  unfold left
  split; · assumption
  split; · assumption
  split; · assumption
  split; · assumption
  split; · assumption
  rename_i h0 h1 h2 h3 h4
  by_cases hk : k = 0
  · subst hk
    exfalso
    simp only [spin, tn, times, first0, if_true] at h0 h1 h2 h3 h4
    apply h
    apply z_ext <;> simp only [zero] <;> omega
  · simp only [spin, tn, times, first1 hk, if_neg hk] at h0 h1 h2 h3 h4 ⊢
    by_cases hz : a.x = 0 ∧ a.y = 0
    · exact absurd (z_ext hz.1 hz.2) h
    · omega
theorem left_step {k : Nat} {a : Z} (h : a ≠ zero) (h0 : first k a = false) : left k (times k a (tn k)) < left k a := by
  have hs := spin_some (k := k) h
  have e1 : left k (times k a (tn k)) = if first k (spin k 1 a) then 0 else if first k (spin k 2 a) then 1 else if first k (spin k 3 a) then 2 else if first k (spin k 4 a) then 3 else if first k (spin k 5 a) then 4 else 5 := rfl
  rw [e1]
  have e2 : left k a = if first k (spin k 1 a) then 1 else if first k (spin k 2 a) then 2 else if first k (spin k 3 a) then 3 else if first k (spin k 4 a) then 4 else 5 := by unfold left; rw [if_neg (by rw [h0]; decide)]
  rw [e2] at hs ⊢
  split; · omega
  split; · omega
  split; · omega
  split; · omega
  rename_i g1 g2 g3 g4
  rw [if_neg g1, if_neg g2, if_neg g3, if_neg g4] at hs
  rw [if_pos hs]; omega
theorem form_first {k : Nat} {a : Z} (h : first k a = true) : form k a = a := by
  unfold form units
  split <;> simp only [List.map_cons, show (⟨1, 0⟩ : Z) = one from rfl, times_one, List.find?_cons, h, Option.getD_some]
theorem form_ex {k : Nat} {a : Z} : form k a = (((units k).map (times k a)).find? (first k)).getD zero := rfl

theorem unit_cases {k : Nat} {u : Z} (h : norm k u = 1) : u ∈ units k := by
  have hx : -1 ≤ u.x ∧ u.x ≤ 1 := sq_le (by omega) (by have := norm_x k u; omega)
  have hy : -1 ≤ u.y ∧ u.y ≤ 1 := sq_le (by omega) (by have := norm_y k u; omega)
  obtain ⟨x, y⟩ := u
  simp only at hx hy
  have cx : x = -1 ∨ x = 0 ∨ x = 1 := by omega
  have cy : y = -1 ∨ y = 0 ∨ y = 1 := by omega
  unfold units
  unfold norm at h
  split <;> rename_i hk <;> simp only [hk, if_true, if_false] at h <;>
    rcases cx with rfl | rfl | rfl <;> rcases cy with rfl | rfl | rfl <;> revert h <;> decide
theorem norm_unit {k : Nat} {u : Z} (h : u ∈ units k) : norm k u = 1 := by
  unfold units at h
  unfold norm
  split <;> rename_i hk <;> simp only [hk, if_true, if_false, List.mem_cons, List.not_mem_nil, or_false] at h
  · rcases h with rfl | rfl | rfl | rfl <;> rfl
  · rcases h with rfl | rfl | rfl | rfl | rfl | rfl <;> rfl
theorem first_uniq {k : Nat} {a u : Z} (h : first k a = true) (hu : norm k u = 1) (g : first k (times k a u) = true) : times k a u = a := by
  have hm := unit_cases hu
  unfold units at hm
  by_cases hk : k = 0
  · subst hk
    rw [if_pos rfl] at hm
    simp only [List.mem_cons, List.not_mem_nil, or_false] at hm
    rcases hm with rfl | rfl | rfl | rfl
    · exact times_one 0 a
    all_goals
      exfalso
      simp only [times, first0, if_true] at h g
      omega
  · rw [if_neg hk] at hm
    simp only [List.mem_cons, List.not_mem_nil, or_false] at hm
    rcases hm with rfl | rfl | rfl | rfl | rfl | rfl
    · exact times_one k a
    all_goals
      exfalso
      simp only [times, first1 hk, if_neg hk] at h g
      omega
/-- some unit brings it there -/
theorem spin_unit {k : Nat} : ∀ (n : Nat) (a : Z), ∃ u, norm k u = 1 ∧ spin k n a = times k a u
  | 0, a => ⟨one, by unfold norm one; split <;> rfl, (times_one k a).symm⟩
  | n + 1, a => by
    obtain ⟨u, hu, e⟩ := spin_unit n (times k a (tn k))
    refine ⟨times k (tn k) u, by rw [norm_times, norm_tn, hu]; rfl, ?_⟩
    rw [← times_assoc, ← e]; rfl
theorem form_spec {k : Nat} {a : Z} (h : a ≠ zero) : first k (form k a) = true ∧ ∃ u, norm k u = 1 ∧ form k a = times k a u := by
  obtain ⟨u, hu, e⟩ := spin_unit (left k a) a
  have hf := spin_some (k := k) h
  rw [e] at hf
  have hm : times k a u ∈ (units k).map (times k a) := List.mem_map.mpr ⟨u, unit_cases hu, rfl⟩
  unfold form
  cases q : ((units k).map (times k a)).find? (first k) with
  | none =>
    rw [List.find?_eq_none] at q
    exact absurd hf (q _ hm)
  | some z =>
    refine ⟨List.find?_some q, ?_⟩
    obtain ⟨v, hv, rfl⟩ := List.mem_map.mp (List.mem_of_find?_eq_some q)
    exact ⟨v, norm_unit hv, rfl⟩
theorem form_norm (k : Nat) (a : Z) : norm k (form k a) = norm k a := by
  by_cases h : a = zero
  · subst h; rw [form_zero]
  · obtain ⟨_, u, hu, e⟩ := form_spec (k := k) h
    rw [e, norm_times, hu, Int.mul_one]
theorem unit_back {k : Nat} {a u : Z} (hu : norm k u = 1) : times k (times k a u) (turned k u) = a := by
  rw [times_assoc, times_turned, hu]; exact times_one k a
/-- two that differ by a unit have one form -/
theorem form_unit {k : Nat} {a u : Z} (hu : norm k u = 1) : form k (times k a u) = form k a := by
  by_cases hz : a = zero
  · subst hz; rw [zero_times]
  have hz2 : times k a u ≠ zero := ne_zero_of_norm (k := k) (by rw [norm_times, hu]; have := norm_pos (k := k) hz; omega)
  obtain ⟨f1, v, hv, e1⟩ := form_spec (k := k) hz
  obtain ⟨f2, w, hw, e2⟩ := form_spec (k := k) hz2
  have ea : a = times k (form k a) (turned k v) := by rw [e1, unit_back hv]
  have e3 : form k (times k a u) = times k (form k a) (times k (turned k v) (times k u w)) := by
    rw [e2]
    conv => lhs; rw [ea]
    rw [times_assoc, times_assoc]
  rw [e3]
  refine first_uniq f1 ?_ (by rw [← e3]; exact f2)
  rw [norm_times, norm_times, norm_turned, hv, hu, hw]; rfl
theorem form_tn {k : Nat} {a : Z} : form k (times k a (tn k)) = form k a := form_unit (norm_tn k)
theorem form_first' {k : Nat} {a u : Z} (hu : norm k u = 1) (h : first k (times k a u) = true) : form k a = times k a u := by
  rw [← form_unit (a := a) hu, form_first h]
theorem form_one {k : Nat} {u : Z} (hu : norm k u = 1) : form k u = one := by
  have h : first k one = true := by unfold first one; split <;> rfl
  have e := form_unit (a := one) hu
  rw [one_times, form_first h] at e
  exact e
end PN
end
section
set_option autoImplicit false
namespace PN
open Na02
/-! the root -/
theorem count_sq (n : Nat) : ∀ N : Nat, ∃ m, m ≤ N ∧ ((List.range N).filter fun r => decide (r * r ≤ n)).length = m ∧ ∀ r, r < N → (r * r ≤ n ↔ r < m)
  | 0 => ⟨0, Nat.le_refl _, rfl, fun r h => absurd h (Nat.not_lt_zero _)⟩
  | N + 1 => by
    obtain ⟨m, h1, h2, h3⟩ := count_sq n N
    rw [List.range_succ, List.filter_append, List.length_append, h2]
    by_cases c : N * N ≤ n
    · have hm : m = N := by
        rcases Nat.lt_or_ge m N with q | q
        · have := (h3 m q).mp (Nat.le_trans (Nat.mul_le_mul (Nat.le_of_lt q) (Nat.le_of_lt q)) c)
          omega
        · omega
      subst hm
      refine ⟨m + 1, Nat.le_refl _, ?_, fun r hr => ?_⟩
      · simp [c]
      · refine ⟨fun _ => hr, fun _ => ?_⟩
        exact Nat.le_trans (Nat.mul_le_mul (by omega) (by omega)) c
    · refine ⟨m, by omega, ?_, fun r hr => ?_⟩
      · simp [c]
      · by_cases e : r = N
        · subst e
          exact ⟨fun q => absurd q c, fun q => by omega⟩
        · exact h3 r (by omega)
theorem root_iff {n : Nat} (hn : n < 160000) (r : Nat) : r ≤ root n ↔ r * r ≤ n := by
  obtain ⟨m, h1, h2, h3⟩ := count_sq n 400
  have h0 : 0 < m := (h3 0 (by omega)).mp (by omega)
  have e : root n = m - 1 := by unfold root; rw [h2]
  rw [e]
  by_cases hr : r < 400
  · rw [h3 r hr]; omega
  · have : 400 * 400 ≤ r * r := Nat.mul_le_mul (by omega) (by omega)
    omega
/-! the order of primes -/
def ltZ (k : Nat) (a b : Z) : Prop := norm k a < norm k b ∨ (norm k a = norm k b ∧ (a.x < b.x ∨ (a.x = b.x ∧ a.y < b.y)))
theorem ltZ_irrefl (k : Nat) (a : Z) : ¬ ltZ k a a := by unfold ltZ; omega
theorem ltZ_asymm {k : Nat} {a b : Z} (h : ltZ k a b) : ¬ ltZ k b a := by unfold ltZ at *; omega
theorem mem_ofSize {k n : Nat} (hn : n < 160000) {z : Z} : z ∈ ofSize k n ↔ first k z = true ∧ norm k z = (n : Int) := by
  unfold ofSize
  simp only [List.mem_flatMap, List.mem_filter, List.mem_map, List.mem_range, Bool.and_eq_true, beq_iff_eq]
  constructor
  · rintro ⟨x, _, ⟨y, _, rfl⟩, h⟩
    exact h
  · rintro ⟨h1, h2⟩
    have hx0 : 0 ≤ z.x := by
      by_cases hk : k = 0
      · subst hk; have := first0.mp h1; omega
      · have := (first1 hk).mp h1; omega
    have hy0 : 0 ≤ z.y := by
      by_cases hk : k = 0
      · subst hk; have := first0.mp h1; omega
      · have := (first1 hk).mp h1; omega
    have key : ∀ x : Int, 0 ≤ x → 3 * (x * x) ≤ 4 * norm k z → x.toNat < 2 * root n + 2 := by
      intro x hx hb
      obtain ⟨m, rfl⟩ := Int.eq_ofNat_of_zero_le hx
      rw [h2] at hb
      have hb2 : 3 * (m * m) ≤ 4 * n := by
        have : (3 * (m * m) : Int) ≤ 4 * (n : Int) := hb
        exact_mod_cast this
      have h3 : m / 2 * (m / 2) ≤ n := by
        have q1 : 2 * (m / 2) ≤ m := Nat.mul_div_le m 2
        have q2 : (2 * (m / 2)) * (2 * (m / 2)) ≤ m * m := Nat.mul_le_mul q1 q1
        have q3 : (2 * (m / 2)) * (2 * (m / 2)) = 4 * (m / 2 * (m / 2)) := by grind
        omega
      have h4 := (root_iff hn (m / 2)).mpr h3
      show m < _
      omega
    have e : z = ⟨((z.x.toNat : Nat) : Int), ((z.y.toNat : Nat) : Int)⟩ := z_ext (by simp only; omega) (by simp only; omega)
    exact ⟨z.x.toNat, key z.x hx0 (norm_x k z), ⟨z.y.toNat, key z.y hy0 (norm_y k z), e.symm⟩, h1, h2⟩
theorem ofSize_sorted (k n : Nat) : (ofSize k n).Pairwise (fun a b => a.x < b.x ∨ (a.x = b.x ∧ a.y < b.y)) := by
  unfold ofSize
  rw [List.pairwise_flatMap]
  constructor
  · intro x _
    apply List.Pairwise.filter
    rw [List.pairwise_map]
    apply List.Pairwise.imp _ List.pairwise_lt_range
    intro a b h
    exact Or.inr ⟨rfl, Int.ofNat_lt.mpr h⟩
  · apply List.Pairwise.imp _ List.pairwise_lt_range
    intro a b h z1 h1 z2 h2
    simp only [List.mem_filter, List.mem_map] at h1 h2
    obtain ⟨⟨_, _, rfl⟩, _⟩ := h1
    obtain ⟨⟨_, _, rfl⟩, _⟩ := h2
    exact Or.inl (Int.ofNat_lt.mpr h)
/-- the candidates, in their order -/
def cands (k n : Nat) : List Z := ((List.range (root n + 1)).drop 2).flatMap (ofSize k)
theorem root_lt {n : Nat} (hn : n < 160000) : root n < 400 := by
  rcases Nat.lt_or_ge (root n) 400 with h | h
  · exact h
  · have := (root_iff hn 400).mp h
    omega
theorem mem_drop2 {m x : Nat} : x ∈ (List.range m).drop 2 ↔ 2 ≤ x ∧ x < m := by
  rw [List.mem_drop_iff_getElem]
  simp only [List.getElem_range, List.length_range]
  constructor
  · rintro ⟨i, h, rfl⟩; omega
  · rintro ⟨h1, h2⟩; exact ⟨x - 2, by omega, by omega⟩
theorem mem_cands {k n : Nat} (hn : n < 160000) {z : Z} : z ∈ cands k n ↔ first k z = true ∧ 2 ≤ norm k z ∧ norm k z * norm k z ≤ (n : Int) := by
  unfold cands
  simp only [List.mem_flatMap, mem_drop2]
  have hr := root_lt hn
  constructor
  · rintro ⟨s, ⟨h1, h2⟩, h3⟩
    have h4 := (mem_ofSize (by omega)).mp h3
    refine ⟨h4.1, by omega, ?_⟩
    rw [h4.2]
    have := (root_iff hn s).mp (by omega)
    exact_mod_cast this
  · rintro ⟨h1, h2, h3⟩
    obtain ⟨s, hs⟩ := Int.eq_ofNat_of_zero_le (norm_nonneg k z)
    rw [hs] at h2 h3
    have h5 : s * s ≤ n := by exact_mod_cast h3
    have h6 := (root_iff hn s).mpr h5
    exact ⟨s, ⟨by omega, by omega⟩, (mem_ofSize (by omega)).mpr ⟨h1, hs⟩⟩
theorem cands_sorted {k n : Nat} (hn : n < 160000) : (cands k n).Pairwise (ltZ k) := by
  unfold cands
  have hr := root_lt hn
  rw [List.pairwise_flatMap]
  constructor
  · intro s hs
    have hs2 := mem_drop2.mp hs
    have h := ofSize_sorted k s
    refine List.Pairwise.imp_of_mem ?_ h
    intro a b ha hb q
    have h1 := (mem_ofSize (by omega)).mp ha
    have h2 := (mem_ofSize (by omega)).mp hb
    right
    exact ⟨by omega, q⟩
  · refine List.Pairwise.imp_of_mem ?_ (List.Pairwise.drop List.pairwise_lt_range)
    intro s t hs ht q a ha b hb
    have h1 := (mem_ofSize (by have := mem_drop2.mp hs; omega)).mp ha
    have h2 := (mem_ofSize (by have := mem_drop2.mp ht; omega)).mp hb
    left
    omega
/-- two sorted lists with the same members are one -/
theorem sorted_uniq {α : Type} {R : α → α → Prop} (ir : ∀ a, ¬ R a a) (as : ∀ a b, R a b → ¬ R b a) : ∀ {l m : List α}, l.Pairwise R → m.Pairwise R → (∀ x, x ∈ l ↔ x ∈ m) → l = m
  | [], [], _, _, _ => rfl
  | [], b :: m, _, _, h => by have := (h b).mpr (List.mem_cons_self ..); cases this
  | a :: l, [], _, _, h => by have := (h a).mp (List.mem_cons_self ..); cases this
  | a :: l, b :: m, hl, hm, h => by
    rw [List.pairwise_cons] at hl hm
    have e : a = b := by
      rcases List.mem_cons.mp ((h a).mp (List.mem_cons_self ..)) with q | q
      · exact q
      · rcases List.mem_cons.mp ((h b).mpr (List.mem_cons_self ..)) with p | p
        · exact p.symm
        · exact absurd (hm.1 a q) (as _ _ (hl.1 b p))
    subst e
    rw [sorted_uniq ir as hl.2 hm.2 fun x => ?_]
    constructor
    · intro hx
      rcases List.mem_cons.mp ((h x).mp (List.mem_cons_of_mem _ hx)) with q | q
      · subst q; exact absurd (hl.1 x hx) (ir x)
      · exact q
    · intro hx
      rcases List.mem_cons.mp ((h x).mpr (List.mem_cons_of_mem _ hx)) with q | q
      · subst q; exact absurd (hm.1 x hx) (ir x)
      · exact q
theorem cands_of {k n : Nat} (hn : n < 160000) {l : List Z} (hs : l.Pairwise (ltZ k)) (hm : ∀ z, z ∈ l ↔ first k z = true ∧ 2 ≤ norm k z ∧ norm k z * norm k z ≤ (n : Int)) : l = cands k n :=
  sorted_uniq (ltZ_irrefl k) (fun _ _ => ltZ_asymm) hs (cands_sorted hn) fun z => by rw [hm, mem_cands hn]
theorem least_eq (k : Nat) (a : Z) : least k a = (cands k (norm k a).toNat).find? fun z => divides k z a := rfl
theorem find_first {α : Type} {R : α → α → Prop} {P : α → Bool} {p : α} : ∀ {l : List α}, l.Pairwise R → p ∈ l → P p = true → (∀ q ∈ l, P q = true → ¬ R q p) → l.find? P = some p
  | [], _, h, _, _ => by cases h
  | a :: l, hs, hm, hp, hq => by
    rw [List.pairwise_cons] at hs
    rcases List.mem_cons.mp hm with e | e
    · subst e; rw [List.find?_cons, hp]
    · have : P a = false := by
        cases q : P a with
        | false => rfl
        | true => exact absurd (hs.1 p e) (hq a (List.mem_cons_self ..) q)
      rw [List.find?_cons, this]
      exact find_first hs.2 e hp fun q m => hq q (List.mem_cons_of_mem _ m)
end PN
end
section
set_option autoImplicit false
namespace PN
open Na02
/-! taking out one number as often as it goes -/
def stripN (k : Nat) (p : Z) : Nat → Z → Nat × Z
  | 0, a => (0, a)
  | f + 1, a => if divides k p a = true then ((stripN k p f (by_ k a p)).1 + 1, (stripN k p f (by_ k a p)).2) else (0, a)
def strip (k : Nat) (p a : Z) : Nat × Z := stripN k p (norm k a).toNat a
/-- what is left behind, where p goes into a -/
theorem by_norm {k : Nat} {p a : Z} (hp : 2 ≤ norm k p) (ha : a ≠ zero) (h : divides k p a = true) :
    norm k a = norm k p * norm k (by_ k a p) ∧ 1 ≤ norm k (by_ k a p) ∧ 2 * norm k (by_ k a p) ≤ norm k a ∧ by_ k a p ≠ zero := by
  have hp0 : p ≠ zero := ne_zero_of_norm (k := k) (by omega)
  obtain ⟨_, e⟩ := quot_of_divides hp0 h
  have en : norm k a = norm k p * norm k (by_ k a p) := by
    conv => lhs; rw [e]
    rw [norm_times]
  have hpos := norm_pos (k := k) ha
  have hc : by_ k a p ≠ zero := by
    intro z
    rw [z, norm_zero, Int.mul_zero] at en
    omega
  have h1 := norm_pos (k := k) hc
  refine ⟨en, by omega, ?_, hc⟩
  rw [en]
  exact Int.mul_le_mul_of_nonneg_right hp (by omega)
theorem stripN_more {k : Nat} {p : Z} (hp : 2 ≤ norm k p) : ∀ (f g : Nat) (a : Z), a ≠ zero → (norm k a).toNat ≤ f → (norm k a).toNat ≤ g → stripN k p f a = stripN k p g a
  | 0, g, a, ha, hf, _ => by have := norm_pos (k := k) ha; omega
  | f + 1, 0, a, ha, _, hg => by have := norm_pos (k := k) ha; omega
  | f + 1, g + 1, a, ha, hf, hg => by
    unfold stripN
    by_cases h : divides k p a = true
    · obtain ⟨_, h1, h2, h3⟩ := by_norm hp ha h
      rw [if_pos h, if_pos h, stripN_more hp f g (by_ k a p) h3 (by omega) (by omega)]
    · rw [if_neg h, if_neg h]
theorem strip_yes {k : Nat} {p a : Z} (hp : 2 ≤ norm k p) (ha : a ≠ zero) (h : divides k p a = true) :
    strip k p a = ((strip k p (by_ k a p)).1 + 1, (strip k p (by_ k a p)).2) := by
  have hpos := norm_pos (k := k) ha
  obtain ⟨_, h1, h2, h3⟩ := by_norm hp ha h
  have e : strip k p a = stripN k p (((norm k a).toNat - 1) + 1) a := by
    unfold strip; congr 1; omega
  rw [e]
  show (if divides k p a = true then _ else _) = _
  rw [if_pos h, stripN_more hp ((norm k a).toNat - 1) (norm k (by_ k a p)).toNat (by_ k a p) h3 (by omega) (by omega)]
  rfl
theorem strip_no {k : Nat} {p a : Z} (h : divides k p a = false) : strip k p a = (0, a) := by
  unfold strip
  cases (norm k a).toNat with
  | zero => rfl
  | succ f => unfold stripN; rw [if_neg (by rw [h]; decide)]
theorem strip_facts {k : Nat} {p : Z} (hp : 2 ≤ norm k p) : ∀ (n : Nat) (a : Z), (norm k a).toNat ≤ n → a ≠ zero → (strip k p a).2 ≠ zero ∧ divides k p (strip k p a).2 = false ∧ norm k (strip k p a).2 ≤ norm k a ∧ ∃ c, a = times k (strip k p a).2 c
  | 0, a, hn, ha => by have := norm_pos (k := k) ha; omega
  | n + 1, a, hn, ha => by
    cases h : divides k p a with
    | false => rw [strip_no h]; exact ⟨ha, h, Int.le_refl _, one, (times_one k a).symm⟩
    | true =>
      obtain ⟨_, h1, h2, h3⟩ := by_norm hp ha h
      obtain ⟨g1, g2, g3, c, g4⟩ := strip_facts hp n (by_ k a p) (by omega) h3
      rw [strip_yes hp ha h]
      refine ⟨g1, g2, by simp only; omega, times k c p, ?_⟩
      have hp0 : p ≠ zero := ne_zero_of_norm (k := k) (by omega)
      obtain ⟨_, e⟩ := quot_of_divides hp0 h
      simp only
      rw [← times_assoc, ← g4, times_comm, ← e]
/-! the whole sweep -/
def sweepStep (k : Nat) (s : List (Z × Nat) × Z) (p : Z) : List (Z × Nat) × Z := (if 0 < (strip k p s.2).1 then s.1 ++ [(p, (strip k p s.2).1)] else s.1, (strip k p s.2).2)
def sweep (k : Nat) : List Z → Z → List (Z × Nat) × Z
  | [], a => ([], a)
  | p :: l, a => (if 0 < (strip k p a).1 then (p, (strip k p a).1) :: (sweep k l (strip k p a).2).1 else (sweep k l (strip k p a).2).1, (sweep k l (strip k p a).2).2)
theorem sweep_cons (k : Nat) (p : Z) (l : List Z) (a : Z) : sweep k (p :: l) a = (if 0 < (strip k p a).1 then (p, (strip k p a).1) :: (sweep k l (strip k p a).2).1 else (sweep k l (strip k p a).2).1, (sweep k l (strip k p a).2).2) := rfl
theorem sweep_fold (k : Nat) : ∀ (l : List Z) (acc : List (Z × Nat)) (a : Z), l.foldl (sweepStep k) (acc, a) = (acc ++ (sweep k l a).1, (sweep k l a).2)
  | [], acc, a => by simp [sweep]
  | p :: l, acc, a => by
    rw [List.foldl_cons]
    show l.foldl (sweepStep k) (if 0 < (strip k p a).1 then acc ++ [(p, (strip k p a).1)] else acc, (strip k p a).2) = _
    rw [sweep_fold k l, sweep_cons]
    split <;> simp
theorem sweep_keys (k : Nat) : ∀ (l : List Z) (a : Z), ((sweep k l a).1.map (·.1)).Sublist l
  | [], _ => List.Sublist.slnil
  | p :: l, a => by
    rw [sweep_cons]
    split
    · exact (sweep_keys k l _).cons_cons p
    · exact (sweep_keys k l _).cons p
theorem sweep_counts (k : Nat) : ∀ (l : List Z) (a : Z), ∀ r ∈ (sweep k l a).1, 0 < r.2
  | [], _ => by simp [sweep]
  | p :: l, a => by
    rw [sweep_cons]
    intro r hr
    split at hr
    · rcases List.mem_cons.mp hr with e | e
      · subst e; assumption
      · exact sweep_counts k l _ r e
    · exact sweep_counts k l _ r hr
theorem divides_trans {k : Nat} {p a c : Z} (h : divides k p a = true) : divides k p (times k a c) = true := by
  obtain ⟨d, rfl⟩ := divides_iff.mp h
  exact divides_iff.mpr ⟨times k d c, times_assoc ..⟩
theorem sweep_facts {k : Nat} : ∀ (l : List Z) (a : Z), (∀ p ∈ l, 2 ≤ norm k p) → a ≠ zero → (sweep k l a).2 ≠ zero ∧ norm k (sweep k l a).2 ≤ norm k a ∧ (∀ p ∈ l, divides k p (sweep k l a).2 = false) ∧ ∃ c, a = times k (sweep k l a).2 c
  | [], a, _, ha => ⟨ha, Int.le_refl _, (fun p hp => absurd hp (List.not_mem_nil)), one, (times_one k a).symm⟩
  | p :: l, a, hl, ha => by
    have hp := hl p (List.mem_cons_self ..)
    obtain ⟨g1, g2, g3, c, g4⟩ := strip_facts hp _ a (Nat.le_refl _) ha
    obtain ⟨q1, q2, q3, d, q4⟩ := sweep_facts l (strip k p a).2 (fun r hr => hl r (List.mem_cons_of_mem _ hr)) g1
    rw [sweep_cons]
    simp only
    refine ⟨q1, by omega, ?_, times k d c, ?_⟩
    · intro r hr
      rcases List.mem_cons.mp hr with e | e
      · subst e
        cases z : divides k r (sweep k l (strip k r a).2).2 with
        | false => rfl
        | true =>
          have := divides_trans (c := d) z
          rw [← q4, g2] at this
          cases this
      · exact q3 r e
    · rw [← times_assoc, ← q4, ← g4]
def expand (r : List (Z × Nat)) : List Z := r.flatMap fun p => List.replicate p.2 p.1
/-- what is told of what is left at the end -/
def tail (k : Nat) (a : Z) : List Z := if 1 < norm k (form k a) then [form k a] else []
theorem divides_form {k : Nat} {a : Z} (ha : a ≠ zero) : divides k (form k a) a = true := by
  obtain ⟨_, u, hu, e⟩ := form_spec (k := k) ha
  exact divides_iff.mpr ⟨turned k u, by rw [e, unit_back hu]⟩
theorem form_ne {k : Nat} {a : Z} (ha : a ≠ zero) : form k a ≠ zero := first_ne (form_spec (k := k) ha).1
theorem apart_small {k f : Nat} {a : Z} (h : norm k a ≤ 1) : apart k f a = ([], a) := by
  cases f with
  | zero => rfl
  | succ f => unfold apart; rw [if_pos h]
theorem apart_none {k f : Nat} {a : Z} (h : 1 < norm k a) (hl : least k a = none) : apart k (f + 1) a = ([form k a], by_ k a (form k a)) := by
  unfold apart; rw [if_neg (by omega), hl]
theorem apart_some {k f : Nat} {a p : Z} (h : 1 < norm k a) (hl : least k a = some p) : apart k (f + 1) a = (p :: (apart k f (by_ k a p)).1, (apart k f (by_ k a p)).2) := by
  conv => lhs; unfold apart
  rw [if_neg (by omega), hl]
theorem quot_one {k : Nat} (a : Z) : quot k a one = a := by
  have := quot_times (k := k) (b := one) a (by decide)
  rw [one_times] at this
  exact this
/-- nothing left to try -/
theorem apart_end {k f : Nat} {a : Z} {M : Nat} (hM : M < 160000) (ha : a ≠ zero) (hn : norm k a ≤ (M : Int)) (hf : norm k a < 2 ^ f)
    (E : ∀ z, first k z = true → 2 ≤ norm k z → norm k z * norm k z ≤ (M : Int) → divides k z a = false) :
    apart k f a = (tail k a, quot k a (form k a)) := by
  have hpos := norm_pos (k := k) ha
  by_cases h1 : norm k a ≤ 1
  · have e1 : norm k a = 1 := by omega
    rw [apart_small h1]
    unfold tail
    rw [form_norm, if_neg (by omega), form_one e1, quot_one]
  · cases f with
    | zero => simp at hf; omega
    | succ f =>
      have hl : least k a = none := by
        rw [least_eq, List.find?_eq_none]
        intro z hz
        have := (mem_cands (by omega)).mp hz
        rw [E z this.1 this.2.1 (by omega)]
        decide
      rw [apart_none (by omega) hl]
      unfold tail
      rw [form_norm, if_pos (by omega), (quot_of_divides (form_ne ha) (divides_form ha)).1]
theorem apart_sweep {k : Nat} {M : Nat} (hM : M < 160000) : ∀ (l : List Z), l.Pairwise (ltZ k) → (∀ p ∈ l, first k p = true ∧ 2 ≤ norm k p ∧ norm k p * norm k p ≤ (M : Int)) →
    ∀ (n : Nat) (f : Nat) (a : Z), (norm k a).toNat ≤ n → a ≠ zero → norm k a ≤ (M : Int) → norm k a < 2 ^ f →
    (∀ z, first k z = true → 2 ≤ norm k z → norm k z * norm k z ≤ (M : Int) → divides k z a = true → z ∈ l) →
    apart k f a = (expand (sweep k l a).1 ++ tail k (sweep k l a).2, quot k (sweep k l a).2 (form k (sweep k l a).2))
  | [], _, _, n, f, a, _, ha, hM2, hf, E => by
    show apart k f a = ([] ++ tail k a, quot k a (form k a))
    rw [List.nil_append]
    refine apart_end hM ha hM2 hf fun z z1 z2 z3 => ?_
    cases q : divides k z a with
    | false => rfl
    | true => have := E z z1 z2 z3 q; cases this
  | p :: l, hs, hl, n, f, a, hn, ha, hM2, hf, E => by
    obtain ⟨p1, p2, p3⟩ := hl p (List.mem_cons_self ..)
    have hl' : ∀ q ∈ l, first k q = true ∧ 2 ≤ norm k q ∧ norm k q * norm k q ≤ (M : Int) := fun q hq => hl q (List.mem_cons_of_mem _ hq)
    rw [List.pairwise_cons] at hs
    have hpos := norm_pos (k := k) ha
    induction n generalizing f a with
    | zero => omega
    | succ n ih =>
      cases hd : divides k p a with
      | false =>
        have es : sweep k (p :: l) a = sweep k l a := by
          rw [sweep_cons, strip_no hd]
          simp
        rw [es]
        refine apart_sweep hM l hs.2 hl' _ f a (Nat.le_refl _) ha hM2 hf fun z z1 z2 z3 z4 => ?_
        rcases List.mem_cons.mp (E z z1 z2 z3 z4) with e | e
        · subst e; rw [hd] at z4; cases z4
        · exact e
      | true =>
        obtain ⟨en, c1, c2, c3⟩ := by_norm p2 ha hd
        have hp0 : p ≠ zero := ne_zero_of_norm (k := k) (by omega)
        obtain ⟨_, ea⟩ := quot_of_divides hp0 hd
        generalize hc : by_ k a p = c at *
        obtain ⟨f, rfl⟩ : ∃ g, f = g + 1 := by
          cases f with
          | zero => simp at hf; omega
          | succ f => exact ⟨f, rfl⟩
        have hf2 : norm k c < 2 ^ f := by
          rw [Int.pow_succ] at hf; omega
        have IH := ih f c (by omega) c3 (by omega) hf2 (fun z z1 z2 z3 z4 => E z z1 z2 z3 (by
          rw [ea, times_comm]; exact divides_trans z4)) (by omega)
        -- the sweep of a is that of c with one p more
        have e1 : expand (sweep k (p :: l) a).1 = p :: expand (sweep k (p :: l) c).1 ∧ (sweep k (p :: l) a).2 = (sweep k (p :: l) c).2 := by
          rw [sweep_cons, sweep_cons, strip_yes p2 ha hd, hc]
          simp only [Nat.zero_lt_succ, if_true]
          refine ⟨?_, trivial⟩
          split
          · unfold expand; simp [List.replicate_succ]
          · rename_i q
            have q0 : (strip k p c).1 = 0 := by omega
            rw [q0]
            unfold expand; simp
        rw [e1.1, e1.2, List.cons_append]
        have key : apart k (f + 1) a = (p :: (apart k f c).1, (apart k f c).2) := by
          by_cases hbig : norm k p * norm k p ≤ norm k a
          · have hl2 : least k a = some p := by
              rw [least_eq]
              have hlt : (norm k a).toNat < 160000 := by omega
              refine find_first (cands_sorted hlt) ((mem_cands hlt).mpr ⟨p1, p2, by omega⟩) hd fun q hq hqd => ?_
              have hq2 := (mem_cands hlt).mp hq
              rcases List.mem_cons.mp (E q hq2.1 hq2.2.1 (by omega) hqd) with e | e
              · subst e; exact ltZ_irrefl k q
              · exact ltZ_asymm (hs.1 q e)
            rw [apart_some (by omega) hl2, hc]
          · -- what is left is a unit
            have hlt : norm k c < norm k p := by
              rw [en] at hbig
              have := Int.lt_of_not_ge hbig
              exact Int.lt_of_mul_lt_mul_left this (by omega)
            have hc1 : norm k c = 1 := by
              rcases Int.lt_or_le 1 (norm k c) with q | q
              · exfalso
                have m1 : norm k (form k c) = norm k c := form_norm k c
                have hm : form k c ∈ p :: l := by
                  refine E _ (form_spec c3).1 (by omega) ?_ ?_
                  · rw [m1]
                    refine Int.le_trans ?_ hM2
                    rw [en]
                    exact Int.mul_le_mul_of_nonneg_right (by omega) (by omega)
                  · rw [ea, times_comm]; exact divides_trans (divides_form c3)
                rcases List.mem_cons.mp hm with e | e
                · rw [← e, m1] at hlt; omega
                · have := hs.1 _ e
                  unfold ltZ at this
                  omega
              · omega
            have hnp : norm k a = norm k p := by rw [en, hc1, Int.mul_one]
            have efo : form k a = p := by rw [ea, form_unit hc1, form_first p1]
            have hl2 : least k a = none := by
              rw [least_eq, List.find?_eq_none]
              intro q hq
              have hlt2 : (norm k a).toNat < 160000 := by omega
              have hq2 := (mem_cands hlt2).mp hq
              cases qd : divides k q a with
              | false => decide
              | true =>
                exfalso
                have hpq : norm k p ≤ norm k q := by
                  rcases List.mem_cons.mp (E q hq2.1 hq2.2.1 (by omega) qd) with e | e
                  · rw [e]; exact Int.le_refl _
                  · have := hs.1 _ e
                    unfold ltZ at this
                    omega
                have : norm k p * norm k p ≤ norm k q * norm k q := Int.mul_le_mul hpq hpq (by omega) (by omega)
                omega
            rw [apart_none (by omega) hl2, efo, hc, apart_small (by omega)]
        rw [key, IH]
end PN
end
section
set_option autoImplicit false
namespace PN
open Na02
/-! counted -/
def cstep (r : List (Z × Nat)) (z : Z) : List (Z × Nat) := match r.findIdx? fun x => x.1 == z with
  | some i => r.set i (z, (r.getD i (z, 0)).2 + 1)
  | none => r ++ [(z, 1)]
theorem counted_eq (l : List Z) : counted l = l.foldl cstep [] := rfl
theorem find_no {r : List (Z × Nat)} {z : Z} (h : z ∉ r.map (·.1)) : (r.findIdx? fun x => x.1 == z) = none := by
  rw [List.findIdx?_eq_none_iff]
  intro x hx
  have : x.1 ≠ z := fun e => h (List.mem_map.mpr ⟨x, hx, e⟩)
  simp [this]
theorem cstep_new {r : List (Z × Nat)} {z : Z} (h : z ∉ r.map (·.1)) : cstep r z = r ++ [(z, 1)] := by
  unfold cstep; rw [find_no h]
theorem cstep_last {r : List (Z × Nat)} {z : Z} {n : Nat} (h : z ∉ r.map (·.1)) : cstep (r ++ [(z, n)]) z = r ++ [(z, n + 1)] := by
  unfold cstep
  have e : ((r ++ [(z, n)]).findIdx? fun x => x.1 == z) = some r.length := by
    rw [List.findIdx?_append, find_no h]
    simp
  rw [e]
  simp
theorem fold_rep {r : List (Z × Nat)} {z : Z} (h : z ∉ r.map (·.1)) : ∀ (m n : Nat), (List.replicate m z).foldl cstep (r ++ [(z, n)]) = r ++ [(z, n + m)]
  | 0, n => rfl
  | m + 1, n => by
    rw [List.replicate_succ, List.foldl_cons, cstep_last h, fold_rep h m (n + 1)]
    congr 3; omega
theorem fold_expand : ∀ (r acc : List (Z × Nat)), (∀ x ∈ r, 0 < x.2) → (r.map (·.1)).Nodup → (∀ z ∈ r.map (·.1), z ∉ acc.map (·.1)) → (expand r).foldl cstep acc = acc ++ r
  | [], acc, _, _, _ => by simp [expand]
  | (z, n) :: r, acc, h1, h2, h3 => by
    have hz : z ∉ acc.map (·.1) := h3 z (by simp)
    have hn : 0 < n := h1 (z, n) (by simp)
    obtain ⟨m, rfl⟩ : ∃ m, n = m + 1 := ⟨n - 1, by omega⟩
    have e : expand ((z, m + 1) :: r) = List.replicate (m + 1) z ++ expand r := by simp [expand]
    rw [e, List.foldl_append, List.replicate_succ, List.foldl_cons, cstep_new hz, fold_rep hz]
    rw [List.map_cons, List.nodup_cons] at h2
    rw [fold_expand r _ (fun x hx => h1 x (List.mem_cons_of_mem _ hx)) h2.2]
    · rw [List.append_assoc, Nat.add_comm 1 m]; rfl
    · intro y hy
      rw [List.map_append, List.mem_append]
      rintro (q | q)
      · exact h3 y (by simp only [List.map_cons, List.mem_cons]; exact Or.inr hy) q
      · simp only [List.map_cons, List.map_nil, List.mem_cons, List.not_mem_nil, or_false] at q
        subst q
        exact h2.1 hy
theorem counted_expand {r : List (Z × Nat)} (h1 : ∀ x ∈ r, 0 < x.2) (h2 : (r.map (·.1)).Nodup) : counted (expand r) = r := by
  rw [counted_eq, fold_expand r [] h1 h2 (by simp)]; rfl
/-! what apart tells -/
def swept (k : Nat) (a : Z) : List (Z × Nat) × Z := sweep k (cands k (norm k a).toNat) a
def told (k : Nat) (a : Z) : List (Z × Nat) := if 1 < norm k (form k (swept k a).2) then (swept k a).1 ++ [(form k (swept k a).2, 1)] else (swept k a).1
def unitOf (k : Nat) (a : Z) : Z := quot k (swept k a).2 (form k (swept k a).2)
theorem cands_facts {k n : Nat} (hn : n < 160000) : ∀ p ∈ cands k n, first k p = true ∧ 2 ≤ norm k p ∧ norm k p * norm k p ≤ (n : Int) := fun _ hp => (mem_cands hn).mp hp
theorem ltZ_nodup {k : Nat} {l : List Z} (h : l.Pairwise (ltZ k)) : l.Nodup := by
  refine List.Pairwise.imp ?_ h
  intro a b q e
  subst e
  exact ltZ_irrefl k a q
theorem apart_told {k : Nat} {a : Z} (ha : a ≠ zero) (hb : norm k a ≤ 100000) : (apart k 40 a).2 = unitOf k a ∧ counted (apart k 40 a).1 = told k a := by
  have hn := norm_nonneg k a
  have hM : (norm k a).toNat < 160000 := by omega
  have E := apart_sweep (k := k) hM (cands k (norm k a).toNat) (cands_sorted hM) (cands_facts hM) _ 40 a (Nat.le_refl _) ha (by omega)
    (by have : (2 : Int) ^ 40 = 1099511627776 := by decide
        omega) (fun z z1 z2 z3 _ => (mem_cands hM).mpr ⟨z1, z2, z3⟩)
  rw [E]
  refine ⟨rfl, ?_⟩
  show counted (expand (swept k a).1 ++ tail k (swept k a).2) = told k a
  have f := sweep_facts (k := k) (cands k (norm k a).toNat) a (fun p hp => (cands_facts hM p hp).2.1) ha
  have hk : ((swept k a).1.map (·.1)).Sublist (cands k (norm k a).toNat) := sweep_keys k _ a
  have hnd : ((swept k a).1.map (·.1)).Nodup := hk.nodup (ltZ_nodup (cands_sorted hM))
  have hc := sweep_counts k (cands k (norm k a).toNat) a
  unfold tail told
  split
  · have e : expand (swept k a).1 ++ [form k (swept k a).2] = expand ((swept k a).1 ++ [(form k (swept k a).2, 1)]) := by
      unfold expand; simp
    rw [e]
    refine counted_expand ?_ ?_
    · intro x hx
      rcases List.mem_append.mp hx with q | q
      · exact hc x q
      · simp at q; subst q; exact Nat.zero_lt_one
    · rw [List.map_append, List.nodup_append]
      refine ⟨hnd, by simp, ?_⟩
      intro x hx y hy e2
      simp at hy
      subst hy
      subst e2
      have h1 := f.2.2.1 _ (hk.subset hx)
      have h2 := divides_form (k := k) f.1
      change divides k (form k (swept k a).2) (swept k a).2 = true at h2
      change divides k (form k (swept k a).2) (swept k a).2 = false at h1
      rw [h1] at h2
      cases h2
  · rw [List.append_nil]
    exact counted_expand hc hnd
/-! the greatest common divisor -/
def gcdN (k : Nat) : Nat → Z → Z → Z
  | 0, a, _ => a
  | f + 1, a, b => if b = zero then a else gcdN k f b (rest k a b)
theorem euclid_gcdN (k : Nat) : ∀ (f : Nat) (a b s s' t t' : Z), (euclid k f a b s s' t t').1 = gcdN k f a b
  | 0, _, _, _, _, _, _ => rfl
  | f + 1, a, b, s, s', t, t' => by
    unfold euclid gcdN
    split
    · rfl
    · simp only
      rw [euclid_gcdN k f, times_comm k (quot k a b) b]; rfl
theorem gcdN_more {k : Nat} : ∀ (f g : Nat) (a b : Z), (norm k b).toNat < f → (norm k b).toNat < g → gcdN k f a b = gcdN k g a b
  | 0, _, _, _, h, _ => by omega
  | _ + 1, 0, _, _, _, h => by omega
  | f + 1, g + 1, a, b, h1, h2 => by
    unfold gcdN
    by_cases hb : b = zero
    · rw [if_pos hb, if_pos hb]
    · rw [if_neg hb, if_neg hb]
      have := rest_norm (k := k) (a := a) hb
      have := norm_nonneg k (rest k a b)
      exact gcdN_more f g b (rest k a b) (by omega) (by omega)
def gcd (k : Nat) (a b : Z) : Z := gcdN k ((norm k b).toNat + 1) a b
theorem gcd_zero (k : Nat) (a : Z) : gcd k a zero = a := by
  unfold gcd gcdN; rw [if_pos rfl]
theorem gcd_step {k : Nat} {a b : Z} (hb : b ≠ zero) : gcd k a b = gcd k b (rest k a b) := by
  have h1 := rest_norm (k := k) (a := a) hb
  have h2 := norm_nonneg k (rest k a b)
  unfold gcd
  conv => lhs; unfold gcdN
  rw [if_neg hb]
  exact gcdN_more _ _ _ _ (by omega) (by omega)
theorem common_gcd (k : Nat) (a b : Z) : common k a b = form k (gcd k a b) := by
  unfold common gcd
  rw [euclid_gcdN]
  have h1 := norm_nonneg k a
  have h2 := norm_nonneg k b
  rw [gcdN_more _ ((norm k b).toNat + 1) a b (by omega) (by omega)]
/-! primes -/
theorem isPrime_eq (k : Nat) (a : Z) : isPrime k a = (decide (1 < norm k a) && (cands k (norm k a).toNat).all fun p => !divides k p a) := by
  unfold isPrime
  rw [least_eq]
  congr 1
  rw [Bool.eq_iff_iff, Option.isNone_iff_eq_none, List.find?_eq_none, List.all_eq_true]
  constructor
  · intro h x hx
    have := h x hx
    simp at this
    simp [this]
  · intro h x hx
    have := h x hx
    simp at this
    simp [this]
end PN
end
section
set_option autoImplicit false
namespace PN
open Na02
/-! the numbers in the first part of at most a size, as the program finds them -/
def cond (k : Nat) (most : Int) (z : Z) : Bool := first k z && decide (norm k z ≤ most)
def rowF (k : Nat) (most : Int) (x : Nat) (m : Nat) : List Z := ((List.range m).map fun (y : Nat) => (⟨1 + (x : Int), (y : Int)⟩ : Z)).filter (cond k most)
def outF (k : Nat) (most : Int) (s : Nat) (n : Nat) : List Z := (List.range n).flatMap fun x => rowF k most x s
theorem rowF_yes {k : Nat} {most : Int} {x m : Nat} (h : cond k most ⟨1 + (x : Int), (m : Int)⟩ = true) : rowF k most x (m + 1) = rowF k most x m ++ [⟨1 + (x : Int), (m : Int)⟩] := by
  unfold rowF; rw [List.range_succ, List.map_append, List.filter_append]; simp [h]
theorem rowF_no {k : Nat} {most : Int} {x m : Nat} (h : cond k most ⟨1 + (x : Int), (m : Int)⟩ = false) : rowF k most x (m + 1) = rowF k most x m := by
  unfold rowF; rw [List.range_succ, List.map_append, List.filter_append]; simp [h]
theorem outF_succ (k : Nat) (most : Int) (s n : Nat) : outF k most s (n + 1) = outF k most s n ++ rowF k most n s := by
  unfold outF; rw [List.range_succ, List.flatMap_append]; simp
theorem rowF_len (k : Nat) (most : Int) (x m : Nat) : (rowF k most x m).length ≤ m := by
  unfold rowF
  refine Nat.le_trans (List.length_filter_le ..) ?_
  simp
theorem outF_len (k : Nat) (most : Int) (s : Nat) : ∀ n : Nat, (outF k most s n).length ≤ n * s
  | 0 => by simp [outF]
  | n + 1 => by
    rw [outF_succ, List.length_append, Nat.add_mul, Nat.one_mul]
    exact Nat.add_le_add (outF_len k most s n) (rowF_len k most n s)
def ltX (a b : Z) : Prop := a.x < b.x ∨ (a.x = b.x ∧ a.y < b.y)
theorem outF_sorted (k : Nat) (most : Int) (s n : Nat) : (outF k most s n).Pairwise ltX := by
  unfold outF rowF
  rw [List.pairwise_flatMap]
  constructor
  · intro x _
    apply List.Pairwise.filter
    rw [List.pairwise_map]
    apply List.Pairwise.imp _ List.pairwise_lt_range
    intro a b h
    exact Or.inr ⟨rfl, Int.ofNat_lt.mpr h⟩
  · apply List.Pairwise.imp _ List.pairwise_lt_range
    intro a b h z1 h1 z2 h2
    simp only [List.mem_filter, List.mem_map] at h1 h2
    obtain ⟨⟨_, _, rfl⟩, _⟩ := h1
    obtain ⟨⟨_, _, rfl⟩, _⟩ := h2
    exact Or.inl (by have := Int.ofNat_lt.mpr h; simp only; omega)
theorem first_pos {k : Nat} {z : Z} (c1 : first k z = true) : 1 ≤ z.x ∧ 0 ≤ z.y := by
  by_cases hk : k = 0
  · subst hk; have := first0.mp c1; omega
  · have := (first1 hk).mp c1; omega
theorem mem_outF {k : Nat} {most s : Int} (hs : 1 ≤ s) (h3 : 4 * most < 3 * (s * s)) {z : Z} : z ∈ outF k most s.toNat (s - 1).toNat ↔ first k z = true ∧ norm k z ≤ most := by
  unfold outF rowF cond
  simp only [List.mem_flatMap, List.mem_filter, List.mem_map, List.mem_range, Bool.and_eq_true, decide_eq_true_eq]
  constructor
  · rintro ⟨x, hx, ⟨y, hy, rfl⟩, c1, c2⟩
    exact ⟨c1, c2⟩
  · rintro ⟨c1, c2⟩
    obtain ⟨hx0, hy0⟩ := first_pos c1
    have key : ∀ x : Int, 0 ≤ x → 3 * (x * x) ≤ 4 * norm k z → x < s := by
      intro x hx hb
      rcases Int.lt_or_le x s with q | q
      · exact q
      · exfalso
        have h5 : s * s ≤ x * x := Int.mul_le_mul q q (by omega) (by omega)
        omega
    have k1 := key z.x (by omega) (norm_x k z)
    have k2 := key z.y hy0 (norm_y k z)
    refine ⟨(z.x - 1).toNat, by omega, ⟨⟨z.y.toNat, by omega, ?_⟩, c1, c2⟩⟩
    apply z_ext <;> simp only <;> omega
theorem ltX_irrefl (a : Z) : ¬ ltX a a := by unfold ltX; omega
theorem ltX_asymm (a b : Z) (h : ltX a b) : ¬ ltX b a := by unfold ltX at *; omega
/-- the same for each side that is enough -/
def fpart (k n : Nat) : List Z := outF k n (((n : Int) + 2).toNat) (((n : Int) + 2 - 1).toNat)
theorem fpart_side (n : Nat) : 4 * (n : Int) < 3 * (((n : Int) + 2) * ((n : Int) + 2)) := by
  have e : ((n : Int) + 2) * ((n : Int) + 2) = (n : Int) * n + 4 * n + 4 := by grind
  have := sqn (n : Int)
  omega
theorem mem_fpart {k n : Nat} {z : Z} : z ∈ fpart k n ↔ first k z = true ∧ norm k z ≤ (n : Int) := mem_outF (by omega) (fpart_side n)
theorem fpart_sorted (k n : Nat) : (fpart k n).Pairwise ltX := outF_sorted ..
theorem outF_fpart {k n : Nat} {s : Int} (hs : 1 ≤ s) (h3 : 4 * (n : Int) < 3 * (s * s)) : outF k n s.toNat (s - 1).toNat = fpart k n :=
  sorted_uniq ltX_irrefl ltX_asymm (outF_sorted ..) (fpart_sorted k n) fun z => by rw [mem_outF hs h3, mem_fpart]
theorem fpart_len {k n : Nat} (hn : n ≤ 1000) : (fpart k n).length ≤ 1600 := by
  rw [← outF_fpart (k := k) (n := n) (s := 40) (by decide) (by omega)]
  refine Nat.le_trans (outF_len ..) ?_
  decide
theorem fpart_bd {k n : Nat} (hn : n ≤ 1000) {z : Z} (h : z ∈ fpart k n) : Bd 40 z := by
  have := (mem_fpart.mp h).2
  exact bd_norm (k := k) (by decide) (by omega)
/-- those of just a size -/
theorem fpart_size {k n : Nat} (hn : n < 160000) : (fpart k n).filter (fun z => decide (norm k z = (n : Int))) = ofSize k n := by
  refine sorted_uniq ltX_irrefl ltX_asymm ((fpart_sorted k n).filter _) (ofSize_sorted k n) fun z => ?_
  rw [List.mem_filter, mem_fpart, mem_ofSize hn, decide_eq_true_iff]
  constructor
  · rintro ⟨⟨a, _⟩, b⟩
    exact ⟨a, b⟩
  · rintro ⟨a, b⟩
    exact ⟨⟨a, by omega⟩, b⟩
/-- those of them that aren't units: what is ranked -/
def ranked (k r : Nat) : List Z := (fpart k r).filter fun z => decide (1 < norm k z)
/-- the same, put into order, are the candidates -/
theorem sorted_cands {k n r : Nat} (hn : n < 160000) (hr : 1 ≤ r) (h1 : r = 1 ∨ r * r ≤ n) (h2 : n < (r + 1) * (r + 1)) {L : List Z} (hp : L.Perm (ranked k r)) (ho : L.Pairwise fun a b => ¬ ltZ k b a) : L = cands k n := by
  refine cands_of hn ?_ fun z => ?_
  · have nd : (ranked k r).Nodup := by
      refine List.Pairwise.imp ?_ ((fpart_sorted k r).filter _)
      intro a b q e
      subst e
      exact ltX_irrefl _ q
    have nd2 : L.Nodup := hp.nodup_iff.mpr nd
    refine List.Pairwise.imp₂ ?_ ho nd2
    intro a b h1 h2
    rcases Classical.em (ltZ k a b) with h | h
    · exact h
    · exfalso
      apply h2
      unfold ltZ at h h1
      exact z_ext (by omega) (by omega)
  · rw [hp.mem_iff]
    unfold ranked
    rw [List.mem_filter, mem_fpart, decide_eq_true_iff]
    have h2' : (n : Int) < ((r : Int) + 1) * ((r : Int) + 1) := by exact_mod_cast h2
    constructor
    · rintro ⟨⟨a, b⟩, c⟩
      refine ⟨a, by omega, ?_⟩
      rcases h1 with h1 | h1
      · omega
      · have h1' : (r : Int) * (r : Int) ≤ n := by exact_mod_cast h1
        exact Int.le_trans (Int.mul_le_mul b b (by omega) (by omega)) h1'
    · rintro ⟨a, b, c⟩
      refine ⟨⟨a, ?_⟩, by omega⟩
      rcases Int.lt_or_le (r : Int) (norm k z) with q | q
      · exfalso
        have : ((r : Int) + 1) * ((r : Int) + 1) ≤ norm k z * norm k z := Int.mul_le_mul (by omega) (by omega) (by omega) (by omega)
        omega
      · exact q
end PN
end
section
set_option autoImplicit false
namespace PN
open Na02
theorem sweep_eq (k : Nat) (l : List Z) (a : Z) : sweep k l a = l.foldl (sweepStep k) ([], a) := by
  rw [sweep_fold]; rfl
theorem sweep_snoc (k : Nat) (l : List Z) (p a : Z) : sweep k (l ++ [p]) a = sweepStep k (sweep k l a) p := by
  rw [sweep_eq, List.foldl_append, ← sweep_eq]; rfl
theorem strip_half {k : Nat} {p a : Z} (hp : 2 ≤ norm k p) (ha : a ≠ zero) (h : 0 < (strip k p a).1) : 2 * norm k (strip k p a).2 ≤ norm k a := by
  cases hd : divides k p a with
  | false => rw [strip_no hd] at h; simp at h
  | true =>
    obtain ⟨_, h1, h2, h3⟩ := by_norm hp ha hd
    have := (strip_facts hp _ (by_ k a p) (Nat.le_refl _) h3).2.2.1
    rw [strip_yes hp ha hd]
    simp only
    omega
theorem sweep_pow {k : Nat} : ∀ (l : List Z) (a : Z), (∀ p ∈ l, 2 ≤ norm k p) → a ≠ zero → 2 ^ (sweep k l a).1.length * norm k (sweep k l a).2 ≤ norm k a
  | [], a, _, _ => by
    show 2 ^ 0 * norm k a ≤ norm k a
    omega
  | p :: l, a, hl, ha => by
    have hp := hl p (List.mem_cons_self ..)
    obtain ⟨g1, g2, g3, _⟩ := strip_facts hp _ a (Nat.le_refl _) ha
    have ih := sweep_pow l (strip k p a).2 (fun r hr => hl r (List.mem_cons_of_mem _ hr)) g1
    rw [sweep_cons]
    by_cases h : 0 < (strip k p a).1
    · have := strip_half hp ha h
      rw [if_pos h]
      simp only [List.length_cons]
      have e : (2 : Int) ^ ((sweep k l (strip k p a).2).1.length + 1) * norm k (sweep k l (strip k p a).2).2 = 2 * (2 ^ (sweep k l (strip k p a).2).1.length * norm k (sweep k l (strip k p a).2).2) := by
        rw [Int.pow_succ]; grind
      rw [e]; omega
    · rw [if_neg h]
      simp only
      omega
theorem sweep_len {k : Nat} {l : List Z} {a : Z} (hl : ∀ p ∈ l, 2 ≤ norm k p) (ha : a ≠ zero) (hb : norm k a < 131072) : (sweep k l a).1.length < 17 := by
  have h1 := sweep_pow l a hl ha
  have h2 := norm_pos (k := k) (sweep_facts l a hl ha).1
  generalize (sweep k l a).1.length = n at *
  rcases Nat.lt_or_ge n 17 with h | h
  · exact h
  · exfalso
    have h3 : (2 : Int) ^ 17 ≤ 2 ^ n := by
      have := Nat.pow_le_pow_right (n := 2) (by decide) h
      exact_mod_cast this
    have h6 : (0 : Int) ≤ 2 ^ n := by
      have : (0 : Int) < 2 ^ 17 := by decide
      omega
    have h4 : (2 : Int) ^ n * 1 ≤ 2 ^ n * norm k (sweep k l a).2 := Int.mul_le_mul_of_nonneg_left (by omega) h6
    have h5 : (2 : Int) ^ 17 = 131072 := by decide
    omega
theorem cands_bd {k n : Nat} (hn : n < 160000) {p : Z} (h : p ∈ cands k n) : Bd 30 p ∧ p ≠ zero ∧ 2 ≤ norm k p := by
  obtain ⟨h1, h2, h3⟩ := (mem_cands hn).mp h
  refine ⟨bd_norm (k := k) (by decide) ?_, first_ne h1, h2⟩
  rcases Int.lt_or_le (norm k p) 400 with q | q
  · omega
  · have : 400 * 400 ≤ norm k p * norm k p := Int.mul_le_mul q q (by decide) (by omega)
    omega
end PN
end
section
set_option autoImplicit false
set_option maxRecDepth 100000
namespace PN
/-! ### the flat list of calls -/
def hN : List Nat := [1, 4, 4, 4, 2, 2, 1, 2, 6, 5, 2, 2]
theorem shape_some {p : Int} {n k : Nat} (h : PyNa02.shape p = some (n, k)) : ∃ c : Nat, p = (c : Int) ∧ hN[c]? = some n ∧ k = 0 := by
  by_cases e0 : p = 0
  · subst e0
    have q : PyNa02.shape 0 = some (1, 0) := rfl
    rw [q] at h
    cases h
    exact ⟨0, rfl, rfl, rfl⟩
  by_cases e1 : p = 1
  · subst e1
    have q : PyNa02.shape 1 = some (4, 0) := rfl
    rw [q] at h
    cases h
    exact ⟨1, rfl, rfl, rfl⟩
  by_cases e2 : p = 2
  · subst e2
    have q : PyNa02.shape 2 = some (4, 0) := rfl
    rw [q] at h
    cases h
    exact ⟨2, rfl, rfl, rfl⟩
  by_cases e3 : p = 3
  · subst e3
    have q : PyNa02.shape 3 = some (4, 0) := rfl
    rw [q] at h
    cases h
    exact ⟨3, rfl, rfl, rfl⟩
  by_cases e4 : p = 4
  · subst e4
    have q : PyNa02.shape 4 = some (2, 0) := rfl
    rw [q] at h
    cases h
    exact ⟨4, rfl, rfl, rfl⟩
  by_cases e5 : p = 5
  · subst e5
    have q : PyNa02.shape 5 = some (2, 0) := rfl
    rw [q] at h
    cases h
    exact ⟨5, rfl, rfl, rfl⟩
  by_cases e6 : p = 6
  · subst e6
    have q : PyNa02.shape 6 = some (1, 0) := rfl
    rw [q] at h
    cases h
    exact ⟨6, rfl, rfl, rfl⟩
  by_cases e7 : p = 7
  · subst e7
    have q : PyNa02.shape 7 = some (2, 0) := rfl
    rw [q] at h
    cases h
    exact ⟨7, rfl, rfl, rfl⟩
  by_cases e8 : p = 8
  · subst e8
    have q : PyNa02.shape 8 = some (6, 0) := rfl
    rw [q] at h
    cases h
    exact ⟨8, rfl, rfl, rfl⟩
  by_cases e9 : p = 9
  · subst e9
    have q : PyNa02.shape 9 = some (5, 0) := rfl
    rw [q] at h
    cases h
    exact ⟨9, rfl, rfl, rfl⟩
  by_cases e10 : p = 10
  · subst e10
    have q : PyNa02.shape 10 = some (2, 0) := rfl
    rw [q] at h
    cases h
    exact ⟨10, rfl, rfl, rfl⟩
  by_cases e11 : p = 11
  · subst e11
    have q : PyNa02.shape 11 = some (2, 0) := rfl
    rw [q] at h
    cases h
    exact ⟨11, rfl, rfl, rfl⟩
  exfalso
  unfold PyNa02.shape at h
  rw [if_neg e0, if_neg e1, if_neg e2, if_neg e3, if_neg e4, if_neg e5, if_neg e6, if_neg e7, if_neg e8, if_neg e9, if_neg e10, if_neg e11] at h
  cases h
theorem calls_cons {f : Nat} {p : Int} {r : List Int} {cs : List (List (List Int))} (h : PyFlat.calls PyNa02.shape f (p :: r) = some cs) :
    ∃ (g c n : Nat) (cs' : List (List (List Int))), p = (c : Int) ∧ hN[c]? = some n ∧ n ≤ r.length ∧ cs = [p :: r.take n] :: cs' ∧ PyFlat.calls PyNa02.shape g (r.drop n) = some cs' := by
  cases f with
  | zero => cases h
  | succ f =>
    simp only [PyFlat.calls, PyFlat.call] at h
    cases hs : PyNa02.shape p with
    | none => rw [hs] at h; cases h
    | some q =>
      obtain ⟨n, k⟩ := q
      obtain ⟨c, e1, e2, e3⟩ := shape_some hs
      subst e3
      rw [hs] at h
      simp only [PyFlat.rows] at h
      by_cases hl : r.length < n
      · rw [if_pos hl] at h; cases h
      · rw [if_neg hl] at h
        simp only at h
        cases hc : PyFlat.calls PyNa02.shape f (r.drop n) with
        | none => rw [hc] at h; cases h
        | some cs' =>
          rw [hc] at h
          cases h
          exact ⟨f, c, n, cs', e1, e2, by omega, rfl, hc⟩
theorem whole_id {c n : Nat} {l : List Int} (h : hN[c]? = some n) (hl : l.length = n) : PyNa02.whole [(c : Int) :: l] = [(c : Int) :: l] := by
  have hc : c < 12 := (List.getElem?_eq_some_iff.mp h).1
  have : c = 0 ∨ c = 1 ∨ c = 2 ∨ c = 3 ∨ c = 4 ∨ c = 5 ∨ c = 6 ∨ c = 7 ∨ c = 8 ∨ c = 9 ∨ c = 10 ∨ c = 11 := by omega
  rcases this with rfl | rfl | rfl | rfl | rfl | rfl | rfl | rfl | rfl | rfl | rfl | rfl <;>
    (simp [hN] at h; subst h)
  · match l, hl with | [a], _ => rfl
  · match l, hl with | [a, b, c, d], _ => rfl
  · match l, hl with | [a, b, c, d], _ => rfl
  · match l, hl with | [a, b, c, d], _ => rfl
  · match l, hl with | [a, b], _ => rfl
  · match l, hl with | [a, b], _ => rfl
  · match l, hl with | [a], _ => rfl
  · match l, hl with | [a, b], _ => rfl
  · match l, hl with | [a, b, c, d, e, f], _ => rfl
  · match l, hl with | [a, b, c, d, e], _ => rfl
  · match l, hl with | [a, b], _ => rfl
  · match l, hl with | [a, b], _ => rfl
abbrev stp (s : Na02.St) (c : List (List Int)) : Na02.St × List Int := Na02Neutral.step s (c.headD [])
theorem played_cons (s : Na02.St) (c : List (List Int)) (l : List (List (List Int))) : PyFlat.played stp s (c :: l) = (stp s c).2 :: PyFlat.played stp (stp s c).1 l := rfl
theorem told_cons (a : List Int) (l : List (List Int)) : PyFlat.told (a :: l) = ((a.length : Int) :: a) ++ PyFlat.told l := by
  unfold PyFlat.told
  rw [List.flatMap_cons]
/-- what is still to do: the rest of the list, what has been given, what is due in all -/
def Rem (s : Na02.St) (l given total : List Int) : Prop := ∃ (f : Nat) (cs : List (List (List Int))), PyFlat.calls PyNa02.shape f l = some cs ∧ given ++ PyFlat.told (PyFlat.played stp s (cs.map PyNa02.whole)) = total
theorem rem_nil {s : Na02.St} {given total : List Int} (h : Rem s [] given total) : given = total := by
  obtain ⟨f, cs, h1, h2⟩ := h
  have : cs = [] := by
    cases f <;> (simp only [PyFlat.calls] at h1; cases h1; rfl)
  subst this
  rw [← h2]
  simp [PyFlat.played, PyFlat.told]
theorem rem_cons {s : Na02.St} {p : Int} {r given total : List Int} (h : Rem s (p :: r) given total) : ∃ c n : Nat, p = (c : Int) ∧ hN[c]? = some n ∧ n ≤ r.length ∧
    Rem (Na02Neutral.step s (p :: r.take n)).1 (r.drop n) (given ++ (((Na02Neutral.step s (p :: r.take n)).2.length : Int) :: (Na02Neutral.step s (p :: r.take n)).2)) total := by
  obtain ⟨f, cs, h1, h2⟩ := h
  obtain ⟨g, c, n, cs', e1, e2, e3, e4, e5⟩ := calls_cons h1
  refine ⟨c, n, e1, e2, e3, g, cs', e5, ?_⟩
  subst e4
  rw [← h2, List.map_cons, e1, whole_id e2 (by rw [List.length_take]; omega), played_cons, told_cons, List.append_assoc]
  rfl
theorem rem_len {s : Na02.St} {l given total : List Int} (h : Rem s l given total) : given.length ≤ total.length := by
  obtain ⟨_, _, _, h2⟩ := h
  rw [← h2, List.length_append]
  omega
theorem rem_start {l : List Int} (h : PyNa02.answers_asked l = true) : Rem Na02Neutral.start l [] (PyNa02.answers l) ∧ (PyNa02.answers l).length ≤ 10000000 := by
  unfold PyNa02.answers_asked at h
  cases hc : PyFlat.calls PyNa02.shape l.length l with
  | none => rw [hc] at h; cases h
  | some raw =>
    rw [hc] at h
    simp only [Bool.and_eq_true] at h
    refine ⟨⟨l.length, raw, hc, ?_⟩, ?_⟩
    · unfold PyNa02.answers PyNa02.calls
      rw [hc]
      rfl
    · have h2 := h.2
      unfold PyFlat.short at h2
      rw [decide_eq_true_iff] at h2
      exact h2
/-! a call from its numbers -/
def nats (l : List Nat) : List Int := l.map fun (n : Nat) => (n : Int)
theorem nats_of {l : List Int} (h : ∀ x ∈ l, 0 ≤ x) : ∃ hs : List Nat, l = nats hs ∧ hs.length = l.length := by
  refine ⟨l.map Int.toNat, ?_, by simp⟩
  unfold nats
  rw [List.map_map]
  have : ∀ x ∈ l, ((fun (n : Nat) => (n : Int)) ∘ Int.toNat) x = id x := fun x hx => by
    have := h x hx
    simp only [Function.comp, id]
    omega
  rw [List.map_congr_left this, List.map_id]
theorem callOf_nats {c : Nat} {hs : List Nat} (hc : c < 12) (h : ∀ n ∈ hs, n ≤ 4294967295) : Na02Neutral.callOf ((c : Int) :: nats hs) = Na02Neutral.callIn (c :: hs) := by
  unfold Na02Neutral.callOf
  have e : (((c : Int) :: nats hs).all Na02Neutral.nat) = true := by
    rw [List.all_eq_true]
    intro x hx
    unfold Na02Neutral.nat
    rcases List.mem_cons.mp hx with rfl | hx
    · simp; omega
    · unfold nats at hx
      obtain ⟨n, hn, rfl⟩ := List.mem_map.mp hx
      have := h n hn
      simp; omega
  have e2 : ((c : Int) :: nats hs).map Int.toNat = c :: hs := by
    unfold nats
    rw [List.map_cons, List.map_map]
    have : (Int.toNat ∘ fun (n : Nat) => (n : Int)) = id := by funext n; rfl
    rw [this, List.map_id]
    rfl
  rw [e, e2, if_neg Bool.noConfusion]
theorem step_some {s : Na02.St} {l : List Int} {x : Na02.Call} (e : Na02Neutral.callOf l = some x) : Na02Neutral.step s l = Na02.step s x := by
  unfold Na02Neutral.step
  rw [e]
theorem step_of {s : Na02.St} {c : Nat} {hs : List Nat} {x : Na02.Call} (hc : c < 12) (h : ∀ n ∈ hs, n ≤ 4294967295) (e : Na02Neutral.callIn (c :: hs) = some x) : Na02Neutral.step s ((c : Int) :: nats hs) = Na02.step s x :=
  step_some ((callOf_nats hc h).trans e)
theorem kind_step (k n : Nat) : Na02.step ⟨k⟩ (.kind n) = if 1 < n then (⟨k⟩, [-1]) else (⟨n⟩, Na02.ints [(Na02.units n).length]) := rfl
theorem kind_is (n : Nat) : Na02Neutral.callIn [0, n] = some (.kind n) := rfl
/-- only kind changes what stands behind it -/
theorem callIn_other {c n : Nat} {hs : List Nat} (hc : hN[c]? = some n) (h0 : c ≠ 0) (hl : hs.length = n) : ∃ x, Na02Neutral.callIn (c :: hs) = some x ∧ ∀ s : Na02.St, (Na02.step s x).1 = s := by
  have hc2 : c < 12 := (List.getElem?_eq_some_iff.mp hc).1
  have : c = 1 ∨ c = 2 ∨ c = 3 ∨ c = 4 ∨ c = 5 ∨ c = 6 ∨ c = 7 ∨ c = 8 ∨ c = 9 ∨ c = 10 ∨ c = 11 := by omega
  rcases this with rfl | rfl | rfl | rfl | rfl | rfl | rfl | rfl | rfl | rfl | rfl <;> (simp [hN] at hc; subst hc)
  · match hs, hl with | [a, b, c, d], _ => exact ⟨_, rfl, fun _ => rfl⟩
  · match hs, hl with | [a, b, c, d], _ => exact ⟨_, rfl, fun _ => rfl⟩
  · match hs, hl with | [a, b, c, d], _ => exact ⟨_, rfl, fun _ => rfl⟩
  · match hs, hl with | [a, b], _ => exact ⟨_, rfl, fun _ => rfl⟩
  · match hs, hl with | [a, b], _ => exact ⟨_, rfl, fun _ => rfl⟩
  · match hs, hl with | [a], _ => exact ⟨_, rfl, fun _ => rfl⟩
  · match hs, hl with | [a, b], _ => exact ⟨_, rfl, fun _ => rfl⟩
  · match hs, hl with | [a, b, c, d, e, f], _ => exact ⟨_, rfl, fun _ => rfl⟩
  · match hs, hl with | [a, b, c, d, e], _ => exact ⟨_, rfl, fun _ => rfl⟩
  · match hs, hl with | [a, b], _ => exact ⟨_, rfl, fun _ => rfl⟩
  · match hs, hl with | [a, b], _ => exact ⟨_, rfl, fun _ => rfl⟩
theorem step_state {k c n : Nat} {hs : List Nat} (hc : hN[c]? = some n) (h0 : c ≠ 0) (hl : hs.length = n) (hb : ∀ m ∈ hs, m ≤ 4294967295) : (Na02Neutral.step ⟨k⟩ ((c : Int) :: nats hs)).1 = ⟨k⟩ := by
  obtain ⟨x, e1, e2⟩ := callIn_other hc h0 hl
  exact (congrArg Prod.fst (step_of (s := ⟨k⟩) (List.getElem?_eq_some_iff.mp hc).1 hb e1)).trans (e2 ⟨k⟩)
theorem step_kind {k n : Nat} (hn : n ≤ 4294967295) : Na02Neutral.step ⟨k⟩ (((0 : Nat) : Int) :: nats [n]) = if 1 < n then (⟨k⟩, [-1]) else (⟨n⟩, Na02.ints [(Na02.units n).length]) :=
  (step_of (s := ⟨k⟩) (by decide) (fun m hm => by rw [List.mem_singleton.mp hm]; exact hn) (kind_is n)).trans (kind_step k n)
end PN
end
section
set_option autoImplicit false
namespace PN
open Na02
/-! ### few -/
def nN (k : Nat) (p : Z × Nat) : Nat := (norm k p.1).toNat
def prodN (k : Nat) : List (Z × Nat) → Nat
  | [] => 1
  | p :: l => nN k p ^ p.2 * prodN k l
theorem prodN_snoc (k : Nat) (p : Z × Nat) : ∀ l, prodN k (l ++ [p]) = prodN k l * nN k p ^ p.2
  | [] => by simp [prodN]
  | q :: l => by
    show nN k q ^ q.2 * prodN k (l ++ [p]) = _
    rw [prodN_snoc k p l, ← Nat.mul_assoc]
    rfl
def fewF (k : Nat) (l : List (Z × Nat)) (t : Nat) : Nat := l.foldl (fun t p => t / nN k p * (nN k p - 1)) t
theorem fewF_snoc (k : Nat) (l : List (Z × Nat)) (p : Z × Nat) (t : Nat) : fewF k (l ++ [p]) t = fewF k l t / nN k p * (nN k p - 1) := by
  unfold fewF
  rw [List.foldl_append]
  rfl
theorem fewF_le (k : Nat) : ∀ (l : List (Z × Nat)) (t : Nat), fewF k l t ≤ t
  | [], t => Nat.le_refl _
  | p :: l, t => by
    show fewF k l (t / nN k p * (nN k p - 1)) ≤ t
    refine Nat.le_trans (fewF_le k l _) ?_
    refine Nat.le_trans (Nat.mul_le_mul_left _ (Nat.sub_le _ 1)) ?_
    exact Nat.div_mul_le_self ..
theorem fewF_eq {k : Nat} : ∀ (l : List (Z × Nat)) (c : Nat), (∀ p ∈ l, 0 < p.2 ∧ 0 < nN k p) → fewF k l (c * prodN k l) = l.foldl (fun n p => n * (((norm k p.1).toNat - 1) * (norm k p.1).toNat ^ (p.2 - 1))) c
  | [], c, _ => by simp [fewF, prodN]
  | p :: l, c, h => by
    obtain ⟨h1, h2⟩ := h p (List.mem_cons_self ..)
    rw [List.foldl_cons, ← fewF_eq l _ fun q hq => h q (List.mem_cons_of_mem _ hq)]
    show fewF k l (c * (nN k p ^ p.2 * prodN k l) / nN k p * (nN k p - 1)) = _
    congr 1
    have e : nN k p ^ p.2 = nN k p * nN k p ^ (p.2 - 1) := by
      conv => lhs; rw [show p.2 = (p.2 - 1) + 1 from by omega]
      rw [Nat.pow_succ, Nat.mul_comm]
    have e2 : c * (nN k p ^ p.2 * prodN k l) = nN k p * (c * nN k p ^ (p.2 - 1) * prodN k l) := by
      rw [e]
      grind
    rw [e2, Nat.mul_div_cancel_left _ h2]
    show _ = c * ((nN k p - 1) * nN k p ^ (p.2 - 1)) * prodN k l
    grind
theorem strip_prod {k : Nat} {p : Z} (hp : 2 ≤ norm k p) : ∀ (n : Nat) (a : Z), (norm k a).toNat ≤ n → a ≠ zero → norm k a = norm k p ^ (strip k p a).1 * norm k (strip k p a).2
  | 0, a, hn, ha => by have := norm_pos (k := k) ha; omega
  | n + 1, a, hn, ha => by
    cases h : divides k p a with
    | false =>
      rw [strip_no h]
      show norm k a = norm k p ^ 0 * norm k a
      rw [Int.pow_zero, Int.one_mul]
    | true =>
      obtain ⟨e, h1, h2, h3⟩ := by_norm hp ha h
      have ih := strip_prod hp n (by_ k a p) (by omega) h3
      rw [strip_yes hp ha h]
      show norm k a = norm k p ^ ((strip k p (by_ k a p)).1 + 1) * norm k (strip k p (by_ k a p)).2
      rw [e, ih, Int.pow_succ]
      grind
theorem sweep_prod {k : Nat} : ∀ (l : List Z) (a : Z), (∀ p ∈ l, 2 ≤ norm k p) → a ≠ zero → norm k a = (prodN k (sweep k l a).1 : Int) * norm k (sweep k l a).2
  | [], a, _, _ => by
    show norm k a = ((1 : Nat) : Int) * norm k a
    omega
  | p :: l, a, hl, ha => by
    have hp := hl p (List.mem_cons_self ..)
    have e := strip_prod hp _ a (Nat.le_refl _) ha
    obtain ⟨g1, _⟩ := strip_facts hp _ a (Nat.le_refl _) ha
    have ih := sweep_prod l (strip k p a).2 (fun r hr => hl r (List.mem_cons_of_mem _ hr)) g1
    rw [sweep_cons]
    simp only
    by_cases h : 0 < (strip k p a).1
    · rw [if_pos h]
      show norm k a = ((((norm k p).toNat ^ (strip k p a).1 * prodN k (sweep k l (strip k p a).2).1 : Nat)) : Int) * _
      rw [Int.natCast_mul, Int.natCast_pow, Int.toNat_of_nonneg (by omega), Int.mul_assoc, ← ih]
      exact e
    · rw [if_neg h, ← ih]
      have : (strip k p a).1 = 0 := by omega
      rw [this, Int.pow_zero, Int.one_mul] at e
      exact e
theorem told_facts {k : Nat} {a : Z} (ha : a ≠ zero) (hb : norm k a ≤ 100000) : prodN k (told k a) = (norm k a).toNat ∧ ∀ p ∈ told k a, 0 < p.2 ∧ 2 ≤ norm k p.1 ∧ norm k p.1 ≤ norm k a := by
  have hn := norm_nonneg k a
  have hM : (norm k a).toNat < 160000 := by omega
  have hc2 : ∀ p ∈ cands k (norm k a).toNat, 2 ≤ norm k p := fun p hp => (cands_facts hM p hp).2.1
  have f := sweep_facts (k := k) (cands k (norm k a).toNat) a hc2 ha
  have e := sweep_prod (k := k) (cands k (norm k a).toNat) a hc2 ha
  have hk : ((swept k a).1.map (·.1)).Sublist (cands k (norm k a).toNat) := sweep_keys k _ a
  have hc := sweep_counts k (cands k (norm k a).toNat) a
  change norm k a = (prodN k (swept k a).1 : Int) * norm k (swept k a).2 at e
  have hpos := norm_pos (k := k) f.1
  change 0 < norm k (swept k a).2 at hpos
  have hle : norm k (swept k a).2 ≤ norm k a := f.2.1
  have hsw : ∀ p ∈ (swept k a).1, 0 < p.2 ∧ 2 ≤ norm k p.1 ∧ norm k p.1 ≤ norm k a := by
    intro p hp
    have hm := hk.subset (List.mem_map.mpr ⟨p, hp, rfl⟩)
    obtain ⟨_, c2, c3⟩ := cands_facts hM p.1 hm
    refine ⟨hc p hp, c2, ?_⟩
    have : 1 * norm k p.1 ≤ norm k p.1 * norm k p.1 := Int.mul_le_mul_of_nonneg_right (by omega) (by omega)
    omega
  unfold told
  rw [form_norm]
  split
  · rename_i h1
    refine ⟨?_, ?_⟩
    · rw [prodN_snoc]
      show prodN k (swept k a).1 * ((norm k (form k (swept k a).2)).toNat) ^ 1 = _
      rw [form_norm, Nat.pow_one]
      have e2 : ((prodN k (swept k a).1 * (norm k (swept k a).2).toNat : Nat) : Int) = norm k a := by
        rw [Int.natCast_mul, Int.toNat_of_nonneg (by omega)]
        exact e.symm
      omega
    · intro p hp
      rcases List.mem_append.mp hp with q | q
      · exact hsw p q
      · rw [List.mem_singleton.mp q]
        simp only
        rw [form_norm]
        exact ⟨by decide, by omega, hle⟩
  · rename_i h1
    have : norm k (swept k a).2 = 1 := by omega
    rw [this, Int.mul_one] at e
    exact ⟨by omega, hsw⟩
theorem few_told {k : Nat} {a : Z} (ha : a ≠ zero) (hb : norm k a ≤ 100000) : few k a = fewF k (told k a) (norm k a).toNat := by
  obtain ⟨h1, h2⟩ := told_facts ha hb
  unfold few
  rw [(apart_told ha hb).2, ← h1]
  have := fewF_eq (k := k) (told k a) 1 fun p hp => ⟨(h2 p hp).1, by have := (h2 p hp).2.1; unfold nN; omega⟩
  rw [Nat.one_mul] at this
  exact this.symm
/-! ### pow -/
theorem pow_fuel {k : Nat} {m : Z} : ∀ (f g e : Nat) (a : Z), e < 2 ^ f → e < 2 ^ g → pow k m f e a = pow k m g e a
  | 0, 0, e, a, _, _ => rfl
  | 0, g + 1, e, a, h, _ => by
    have : e = 0 := by simpa using h
    subst this
    show rest k one m = if 0 = 0 then rest k one m else _
    rw [if_pos rfl]
  | f + 1, 0, e, a, _, h => by
    have : e = 0 := by simpa using h
    subst this
    show (if 0 = 0 then rest k one m else _) = rest k one m
    rw [if_pos rfl]
  | f + 1, g + 1, e, a, h1, h2 => by
    unfold pow
    rw [pow_fuel f g (e / 2) _ (by rw [Nat.pow_succ] at h1; omega) (by rw [Nat.pow_succ] at h2; omega)]
theorem pow_norm {k : Nat} {m : Z} (hm : m ≠ zero) : ∀ (f e : Nat) (a : Z), norm k (pow k m f e a) < norm k m
  | 0, e, a => rest_norm hm
  | f + 1, e, a => by
    unfold pow
    split
    · exact rest_norm hm
    · simp only
      split
      · exact rest_norm hm
      · exact pow_norm hm f _ _
theorem pow_log {k : Nat} {m : Z} {e : Nat} (h : e ≤ 4294967295) (a : Z) : pow k m (e.log2 + 2) e a = pow k m 32 e a := by
  refine pow_fuel _ _ _ _ ?_ (by have : (2 : Nat) ^ 32 = 4294967296 := by decide
                                 omega)
  have := Nat.lt_log2_self (n := e)
  rw [show e.log2 + 2 = (e.log2 + 1) + 1 from rfl, Nat.pow_succ]
  omega
/-! ### what each call answers, as the program asks for it -/
def oneOf (k c : Nat) (a : Z) : List Int :=
  if c = 4 then (if a = zero then [-6] else [0, (unitOf k a).x, (unitOf k a).y, ((told k a).length : Int)] ++ (told k a).flatMap fun r => [r.1.x, r.1.y, (r.2 : Int)])
  else if c = 5 then [if isPrime k a = true then 1 else 0]
  else if c = 7 then shown (form k a)
  else if c = 10 then (if a = zero then [-6] else [(few k a : Int)])
  else [norm k a]
def twoOf (k c : Nat) (a b : Z) : List Int :=
  if c = 1 then shown (times k a b)
  else if c = 2 then (if b = zero then [-6] else shown (quot k a b) ++ [(rest k a b).x, (rest k a b).y])
  else shown (common k a b)
def sizeOf (k n : Nat) : List Int := if n = 0 ∨ 1000 < n then [-1] else ((ofSize k n).length : Int) :: (ofSize k n).flatMap fun z => [z.x, z.y]
def powOf (k : Nat) (a m : Z) (e : Nat) : List Int := if m = zero then [-6] else shown (pow k m 32 e (rest k a m))
end PN
end
section
set_option autoImplicit false
set_option maxRecDepth 100000
namespace PN
open Na02
/-! numbers, two by two -/
def pairs : List Nat → List Z
  | a :: b :: r => Na02Neutral.zed a b :: pairs r
  | _ => []
theorem pairs_at : ∀ (l : List Nat) (i : Nat) (a b : Nat), l[2 * i]? = some a → l[2 * i + 1]? = some b → (pairs l)[i]? = some (Na02Neutral.zed a b)
  | x :: y :: r, 0, a, b, h1, h2 => by
    simp at h1 h2
    subst h1 h2
    rfl
  | x :: y :: r, i + 1, a, b, h1, h2 => by
    have e1 : 2 * (i + 1) = 2 * i + 1 + 1 := by omega
    rw [e1] at h1 h2
    simp at h1 h2
    show (pairs r)[i]? = _
    exact pairs_at r i a b h1 h2
  | [x], i, a, b, h1, h2 => by
    simp at h2
  | [], i, a, b, h1, h2 => by simp at h1
theorem pairs_len : ∀ (l : List Nat), (pairs l).length = l.length / 2
  | [] => rfl
  | [_] => by simp [pairs]
  | x :: y :: r => by
    show (pairs r).length + 1 = (r.length + 1 + 1) / 2
    rw [pairs_len r]; omega
def kindOf (n : Nat) : List Int := if 1 < n then [-1] else Na02.ints [(units n).length]
def ansOf (k c : Nat) (hs : List Nat) : List Int :=
  if c = 0 then kindOf (hs.getD 0 0)
  else if c = 6 then sizeOf k (hs.getD 0 0)
  else if (pairs hs).all small = false then [-1]
  else if c = 8 then [if divides k ((pairs hs).getD 2 zero) (minus ((pairs hs).getD 0 zero) ((pairs hs).getD 1 zero)) = true then 1 else 0]
  else if c = 9 then powOf k ((pairs hs).getD 0 zero) ((pairs hs).getD 1 zero) (hs.getD 4 0)
  else if (pairs hs).length = 1 then oneOf k c ((pairs hs).getD 0 zero)
  else twoOf k c ((pairs hs).getD 0 zero) ((pairs hs).getD 1 zero)
theorem small_bd {a : Z} (h : small a = true) : Bd 100 a := by
  unfold small at h
  simp only [Bool.and_eq_true, decide_eq_true_eq] at h
  exact ⟨⟨h.1, h.2.1⟩, h.2.2.1, h.2.2.2⟩
theorem ite_ints (b : Bool) : Na02.ints [if b = true then 1 else 0] = [if b = true then 1 else 0] := by cases b <;> rfl
theorem small1 {a : Z} {X Y : List Int} (h : small a = true → X = Y) : (if small a = false then [-1] else X) = if [a].all small = false then [-1] else Y := by
  cases e : small a with
  | false => simp [e]
  | true => simp [e, h e]
theorem small2 {a b : Z} {X Y : List Int} (h : small a = true → small b = true → X = Y) : (if small a = false ∨ small b = false then [-1] else X) = if [a, b].all small = false then [-1] else Y := by
  cases e : small a with
  | false => simp [e]
  | true =>
    cases e2 : small b with
    | false => simp [e, e2]
    | true => simp [e, e2, h e e2]
theorem small3 {a b c : Z} {X Y : List Int} (h : X = Y) : (if small a = false ∨ small b = false ∨ small c = false then [-1] else X) = if [a, b, c].all small = false then [-1] else Y := by
  subst h
  cases e : small a <;> cases e2 : small b <;> cases e3 : small c <;> simp [e, e2, e3]
theorem step_ans {k c n : Nat} {hs : List Nat} (hc : hN[c]? = some n) (hl : hs.length = n) (hb : ∀ m ∈ hs, m ≤ 4294967295) : (Na02Neutral.step ⟨k⟩ ((c : Int) :: nats hs)).2 = ansOf k c hs := by
  have hc2 : c < 12 := (List.getElem?_eq_some_iff.mp hc).1
  have key : ∀ x, Na02Neutral.callIn (c :: hs) = some x → (Na02.step ⟨k⟩ x).2 = ansOf k c hs → (Na02Neutral.step ⟨k⟩ ((c : Int) :: nats hs)).2 = ansOf k c hs := fun x h1 h2 => (congrArg Prod.snd (step_of (s := ⟨k⟩) hc2 hb h1)).trans h2
  have : c = 0 ∨ c = 1 ∨ c = 2 ∨ c = 3 ∨ c = 4 ∨ c = 5 ∨ c = 6 ∨ c = 7 ∨ c = 8 ∨ c = 9 ∨ c = 10 ∨ c = 11 := by omega
  rcases this with rfl | rfl | rfl | rfl | rfl | rfl | rfl | rfl | rfl | rfl | rfl | rfl <;> (simp [hN] at hc; subst hc)
  · match hs, hl with
    | [a], _ =>
      refine key _ rfl ?_
      show (if 1 < a then ((⟨k⟩ : St), [-1]) else ((⟨a⟩ : St), Na02.ints [(units a).length])).2 = kindOf a
      unfold kindOf
      split <;> rfl
  · match hs, hl with | [a, b, c, d], _ => exact key _ rfl (small2 fun _ _ => rfl)
  · match hs, hl with | [a, b, c, d], _ => exact key _ rfl (small2 fun _ _ => rfl)
  · match hs, hl with | [a, b, c, d], _ => exact key _ rfl (small2 fun _ _ => rfl)
  · match hs, hl with
    | [a, b], _ =>
      refine key _ rfl (small1 (a := Na02Neutral.zed a b) fun h => ?_)
      show (if Na02Neutral.zed a b = zero then _ else _) = if Na02Neutral.zed a b = zero then _ else _
      by_cases h0 : Na02Neutral.zed a b = zero
      · rw [if_pos h0, if_pos h0]
      · rw [if_neg h0, if_neg h0]
        have hn := norm_bd (k := k) (small_bd h)
        obtain ⟨e1, e2⟩ := apart_told (k := k) h0 (by omega)
        simp only [e1, e2]
        rfl
  · match hs, hl with | [a, b], _ => exact key _ rfl (small1 fun _ => ite_ints _)
  · match hs, hl with | [a], _ => exact key _ rfl rfl
  · match hs, hl with | [a, b], _ => exact key _ rfl (small1 fun _ => rfl)
  · match hs, hl with | [a, b, c, d, e, f], _ => exact key _ rfl (small3 (ite_ints _))
  · match hs, hl with
    | [a, b, c, d, e], _ =>
      refine key _ rfl (small2 (a := Na02Neutral.zed a b) (b := Na02Neutral.zed c d) fun _ _ => ?_)
      show (if Na02Neutral.zed c d = zero then [-6] else shown (pow k (Na02Neutral.zed c d) (e.log2 + 2) e (rest k (Na02Neutral.zed a b) (Na02Neutral.zed c d)))) = powOf k (Na02Neutral.zed a b) (Na02Neutral.zed c d) e
      unfold powOf
      rw [pow_log (hb e (by simp))]
  · match hs, hl with | [a, b], _ => exact key _ rfl (small1 fun _ => rfl)
  · match hs, hl with | [a, b], _ => exact key _ rfl (small1 fun _ => rfl)
end PN
end
section
set_option Elab.async false
set_option maxRecDepth 100000
set_option maxHeartbeats 2000000
set_option linter.all false
namespace PN
open PySem PySem.Spec PyProof.Rows L2 Evl
/-! ### what a value stands for -/
abbrev NZ := Na02.Z
def zt (z : NZ) : List V := [.int z.x, .int z.y]
def rt (r : NZ × Nat) : List V := [.int r.1.x, .int r.1.y, .int (r.2 : Int)]
def All2 {α β : Type} (R : α → β → Prop) : List α → List β → Prop
  | [], [] => True
  | a :: l, b :: m => R a b ∧ All2 R l m
  | _, _ => False
theorem All2.imp {α β : Type} {R S : α → β → Prop} (h : ∀ a b, R a b → S a b) : ∀ {l : List α} {m : List β}, All2 R l m → All2 S l m
  | [], [], _ => trivial
  | a :: l, b :: m, ⟨h1, h2⟩ => ⟨h a b h1, All2.imp h h2⟩
  | [], _ :: _, q => q.elim
  | _ :: _, [], q => q.elim
theorem All2.len {α β : Type} {R : α → β → Prop} : ∀ {l : List α} {m : List β}, All2 R l m → m.length = l.length
  | [], [], _ => rfl
  | a :: l, b :: m, ⟨_, h2⟩ => congrArg (· + 1) (All2.len h2)
  | [], _ :: _, q => q.elim
  | _ :: _, [], q => q.elim
theorem All2.snoc {α β : Type} {R : α → β → Prop} {a : α} {b : β} (h : R a b) : ∀ {l : List α} {m : List β}, All2 R l m → All2 R (l ++ [a]) (m ++ [b])
  | [], [], _ => ⟨h, trivial⟩
  | _ :: l, _ :: m, ⟨h1, h2⟩ => ⟨h1, All2.snoc h h2⟩
  | [], _ :: _, q => q.elim
  | _ :: _, [], q => q.elim
theorem All2.at {α β : Type} {R : α → β → Prop} : ∀ {l : List α} {m : List β}, All2 R l m → ∀ {i : Nat} {b : β}, m[i]? = some b → ∃ a, l[i]? = some a ∧ R a b
  | [], [], _, i, b, h => by simp at h
  | a :: l, c :: m, ⟨h1, h2⟩, 0, b, h => by
    simp at h
    subst h
    exact ⟨a, rfl, h1⟩
  | a :: l, c :: m, ⟨h1, h2⟩, i + 1, b, h => by
    simp at h
    obtain ⟨x, e, r⟩ := All2.at h2 h
    exact ⟨x, by simpa using e, r⟩
  | [], _ :: _, q, _, _, _ => q.elim
  | _ :: _, [], q, _, _, _ => q.elim
theorem all2_1 {α β : Type} {R : α → β → Prop} {a : α} {m : List β} (h : All2 R [a] m) : ∃ x, m = [x] ∧ R a x := by
  match m, h with
  | [x], ⟨h1, _⟩ => exact ⟨x, rfl, h1⟩
theorem all2_2 {α β : Type} {R : α → β → Prop} {a b : α} {m : List β} (h : All2 R [a, b] m) : ∃ x y, m = [x, y] ∧ R a x ∧ R b y := by
  match m, h with
  | [x, y], ⟨h1, h2, _⟩ => exact ⟨x, y, rfl, h1, h2⟩
theorem all2_3 {α β : Type} {R : α → β → Prop} {a b c : α} {m : List β} (h : All2 R [a, b, c] m) : ∃ x y z, m = [x, y, z] ∧ R a x ∧ R b y ∧ R c z := by
  match m, h with
  | [x, y, z], ⟨h1, h2, h3, _⟩ => exact ⟨x, y, z, rfl, h1, h2, h3⟩
theorem all2_4 {α β : Type} {R : α → β → Prop} {a b c d : α} {m : List β} (h : All2 R [a, b, c, d] m) : ∃ x y z w, m = [x, y, z, w] ∧ R a x ∧ R b y ∧ R c z ∧ R d w := by
  match m, h with
  | [x, y, z, w], ⟨h1, h2, h3, h4, _⟩ => exact ⟨x, y, z, w, rfl, h1, h2, h3, h4⟩
inductive Dt where
  | v (v : V)
  | z (z : NZ)
  | ints (l : List Int)
  | nums (l : List NZ)
  | rows (l : List (NZ × Nat))
  | took (u : NZ) (l : List (NZ × Nat))
section
variable (K : PySem.W.Frag)
def TupAt (H : Hp) (xs : List V) (x : V) : Prop := ∃ p, x = .ref p ∧ SqT K H p xs
def IsA (H : Hp) : Dt → V → Prop
  | .v u, x => x = u
  | .z a, x => TupAt K H (zt a) x
  | .ints l, x => ∃ p, x = .ref p ∧ H p = some (.lst (l.map V.int))
  | .nums l, x => ∃ p vs, x = .ref p ∧ H p = some (.lst vs) ∧ All2 (fun a u => TupAt K H (zt a) u) l vs
  | .rows l, x => ∃ p vs, x = .ref p ∧ H p = some (.lst vs) ∧ All2 (fun a u => TupAt K H (rt a) u) l vs
  | .took u l, x => ∃ a b p vs, TupAt K H [a, b] x ∧ TupAt K H (zt u) a ∧ b = .ref p ∧ H p = some (.lst vs) ∧ All2 (fun a u => TupAt K H (rt a) u) l vs
variable {K}
theorem TupAt.ex {H H' : Hp} {xs : List V} {x : V} (e : Ex H H') (h : TupAt K H xs x) : TupAt K H' xs x := by
  obtain ⟨p, rfl, h⟩ := h
  exact ⟨p, rfl, ex_t e h⟩
theorem IsA.ex {H H' : Hp} (e : Ex H H') : ∀ {d : Dt} {x : V}, IsA K H d x → IsA K H' d x
  | .v u, x, h => h
  | .z a, x, h => TupAt.ex e h
  | .ints l, x, ⟨p, e1, h⟩ => ⟨p, e1, e _ _ h⟩
  | .nums l, x, ⟨p, vs, e1, h, q⟩ => ⟨p, vs, e1, e _ _ h, q.imp fun _ _ t => t.ex e⟩
  | .rows l, x, ⟨p, vs, e1, h, q⟩ => ⟨p, vs, e1, e _ _ h, q.imp fun _ _ t => t.ex e⟩
  | .took u l, x, ⟨a, b, p, vs, t1, t2, e1, h, q⟩ => ⟨a, b, p, vs, t1.ex e, t2.ex e, e1, e _ _ h, q.imp fun _ _ t => t.ex e⟩
/-! ### readings -/
variable (K)
def EvX (te : TE) (σ : L2.St) (H : Hp) (d : Dt) : Prop := ∀ H1, Ex H H1 → ∀ Q : VK, (∀ v H2, Ex H1 H2 → IsA K H2 d v → Q v H2) → te σ H1 Q
def EvAs (ta : TA) (σ : L2.St) (H : Hp) (l : List Dt) : Prop := ∀ H1, Ex H H1 → ∀ Q : List V → Hp → Prop, (∀ vs H2, Ex H1 H2 → All2 (IsA K H2) l vs → Q vs H2) → ta σ H1 Q
variable {K}
variable {σ : L2.St} {H : Hp} {te ta tb : TE} {d : Dt}
theorem EvX.ev {u : V} (h : EvX K te σ H (.v u)) : Ev te σ H u := fun H1 e Q q => h H1 e Q fun v H2 e2 a => by
  cases a
  exact q H2 e2
theorem ev_x {u : V} (h : Ev te σ H u) : EvX K te σ H (.v u) := fun H1 e Q q => h H1 e Q fun H2 e2 => q u H2 e2 rfl
theorem x_var {i : Nat} {v : V} (h : σ[i]? = some (some v)) (ha : IsA K H d v) : EvX K (tVar i) σ H d := fun H1 e Q q => ⟨v, h, q v H1 (Ex.refl H1) (ha.ex e)⟩
theorem x_c {v : V} (ha : IsA K H d v) : EvX K (tC v) σ H d := fun H1 e Q q => q v H1 (Ex.refl H1) (ha.ex e)
theorem EvX.mono {H' : Hp} (e : Ex H H') (h : EvX K te σ H d) : EvX K te σ H' d := fun H1 a Q q => h H1 (e.trans a) Q q
theorem ax_nil : EvAs K tNil σ H [] := fun H1 e Q q => q [] H1 (Ex.refl H1) trivial
theorem ax_cons {tr : TA} {l : List Dt} (h : EvX K te σ H d) (hr : EvAs K tr σ H l) : EvAs K (tCons te tr) σ H (d :: l) := fun H1 e Q q =>
  h H1 e _ fun v H2 e2 a => hr H2 (e.trans e2) _ fun vs H3 e3 b => q (v :: vs) H3 (e2.trans e3) ⟨a.ex e3, b⟩
theorem x_tup2 {x y : Int} (h1 : Ev ta σ H (.int x)) (h2 : Ev tb σ H (.int y)) : EvX K (tTup (tCons ta (tCons tb tNil))) σ H (.z ⟨x, y⟩) := fun H1 e Q q =>
  h1 H1 e _ fun H2 e2 => h2 H2 (e.trans e2) _ fun H3 e3 => ⟨(by decide : 2 ≤ sizeLine), fun p hp => q (.ref p) _ ((e2.trans e3).trans (Ex.new hp)) ⟨p, rfl, st_of upd_same⟩⟩
theorem x_if {t : TT} {b : Bool} (h : EvT t σ H b) (h1 : b = true → EvX K ta σ H d) (h2 : b = false → EvX K tb σ H d) : EvX K (tIf t ta tb) σ H d := fun H1 e Q q => h H1 e _ fun H2 e2 => by
  cases b with
  | true => exact h1 rfl H2 (e.trans e2) Q fun v H3 e3 a => q v H3 (e2.trans e3) a
  | false => exact h2 rfl H2 (e.trans e2) Q fun v H3 e3 a => q v H3 (e2.trans e3) a
/-- the parts of a number -/
theorem ev_x0 {a : NZ} (h : EvX K ta σ H (.z a)) : Ev (tOp (rIxT K) ta (tC (.int 0))) σ H (.int a.x) := fun H1 e Q q =>
  h H1 e _ fun v H2 e2 ⟨p, e3, ht⟩ => ⟨p, _, 0, _, e3, rfl, ht, rfl, q H2 e2⟩
theorem ev_x1 {a : NZ} (h : EvX K ta σ H (.z a)) : Ev (tOp (rIxT K) ta (tC (.int 1))) σ H (.int a.y) := fun H1 e Q q =>
  h H1 e _ fun v H2 e2 ⟨p, e3, ht⟩ => ⟨p, _, 1, _, e3, rfl, ht, rfl, q H2 e2⟩
/-! two numbers held against each other -/
def dz (a : NZ) : PyData := .tuple [.int a.x, .int a.y]
theorem dp_z {x : V} {a : NZ} (h : TupAt K H (zt a) x) : Dp K H x (dz a) := by
  obtain ⟨p, rfl, h⟩ := h
  exact .tup h (.cons (.int _) (.cons (.int _) .nil))
theorem dz_shaped (a : NZ) : SeqAt.shaped (dz a) = true := by
  simp [SeqAt.shaped, dz, PyData.canLay0, PyData.canLayAll0, PyData.depth, PyData.depthAll]
theorem dz_eqv (a b : NZ) : PyData.eqv (dz a) (dz b) = decide (a = b) := by
  have e : PyData.eqv (dz a) (dz b) = ((a.x == b.x) && ((a.y == b.y) && true)) := by simp only [dz, PyData.eqv, PyData.eqvAll]
  rw [e, Bool.and_true, Bool.eq_iff_iff, Bool.and_eq_true, beq_iff_eq, beq_iff_eq, decide_eq_true_iff]
  constructor
  · rintro ⟨h1, h2⟩
    exact z_ext h1 h2
  · rintro rfl
    exact ⟨rfl, rfl⟩
theorem ev_eqz {a b : NZ} (h1 : EvX K ta σ H (.z a)) (h2 : EvX K tb σ H (.z b)) : Ev (tOp (rEqD K) ta tb) σ H (.bl (decide (a = b))) := fun H1 e Q q =>
  h1 H1 e _ fun x H2 e2 t1 => h2 H2 (e.trans e2) _ fun y H3 e3 t2 => ⟨_, _, dp_z (TupAt.ex e3 t1), dp_z t2, dz_shaped a, dz_shaped b, by rw [dz_eqv]; exact q H3 (e2.trans e3)⟩
theorem ev_nez {a b : NZ} (h1 : EvX K ta σ H (.z a)) (h2 : EvX K tb σ H (.z b)) : Ev (tOp (rNeD K) ta tb) σ H (.bl (!decide (a = b))) := fun H1 e Q q =>
  h1 H1 e _ fun x H2 e2 t1 => h2 H2 (e.trans e2) _ fun y H3 e3 t2 => ⟨_, _, dp_z (TupAt.ex e3 t1), dp_z t2, dz_shaped a, dz_shaped b, by rw [dz_eqv]; exact q H3 (e2.trans e3)⟩
theorem ev_eqi {i j : Int} (h1 : Ev ta σ H (.int i)) (h2 : Ev tb σ H (.int j)) : Ev (tOp rEq ta tb) σ H (.bl (decide (i = j))) :=
  ev_is (ev_op h1 h2 (rv_eq rfl)) (by
    congr 1
    by_cases h : i = j
    · subst h; simp
    · have : ¬ V.int i = V.int j := fun e => h (V.int.inj e)
      simp [h, this])
/-! statements -/
variable {D : Ends}
theorem s_asgX {i : Nat} (h : EvX K te σ H d) (k : ∀ v H1, Ex H H1 → IsA K H1 d v → D.nx (σ.set i (some v)) H1) : tAsg te (gName i) D σ H := h H (Ex.refl H) _ fun v H1 e a => k v H1 e a
theorem s_retX (h : EvX K te σ H d) (k : ∀ v H1, Ex H H1 → IsA K H1 d v → D.rt v H1) : tRet te D σ H := h H (Ex.refl H) _ k
theorem q_asgX {i : Nat} {tz : TS} (h : EvX K te σ H d) (k : ∀ v H1, Ex H H1 → IsA K H1 d v → tz D (σ.set i (some v)) H1) : tSeq (tAsg te (gName i)) tz D σ H := s_asgX (D := { D with nx := tz D }) h k
theorem q_if {t : TT} {tu tw tz : TS} {b : Bool} (h : EvT t σ H b) (h1 : b = true → ∀ H1, Ex H H1 → tu { D with nx := tz D } σ H1) (h2 : b = false → ∀ H1, Ex H H1 → tw { D with nx := tz D } σ H1) : tSeq (tIfS t tu tw) tz D σ H := s_if (D := { D with nx := tz D }) h h1 h2
/-! ### promises -/
variable (K)
def spOf (Dom : List Dt → Dt → Prop) : Sp := fun vs H Q _ => ∃ l r, Dom l r ∧ All2 (IsA K H) l vs ∧ ∀ v H', Ex H H' → IsA K H' r v → Q v H'
variable {K}
theorem x_call {Dom : List Dt → Dt → Prop} {l : List Dt} {E : XK} {t : TA} (h : EvAs K t σ H l) (hd : Dom l d) : EvX K (tCall (spOf K Dom) [] E t) σ H d := fun H1 e Q q =>
  h H1 e _ fun vs H2 e2 a => by
    show spOf K Dom (vs ++ []) H2 Q E
    rw [List.append_nil]
    exact ⟨l, d, hd, a, fun v H' e3 b => q v H' (e2.trans e3) b⟩
end
/-- a def that may be called: where it stands, what it promises -/
structure Def (P : Program) (w : World) (K : PySem.W.Frag) (mg : Str → Option Value) (base : Heap) (x : Str) (k : Nat) (ps : List Str) (sp : Sp) : Prop where
  ex : ∃ f fd, FnOk P w K mg base CX0 k f fd ps sp ∧ mg x = some (.ref f) ∧ PySem.W.keepIn K (.ref f) = true ∧ Binds K fd ps []
theorem pe_cd {X : Cx} {x : Str} {k : Nat} {ps : List Str} {sp : Sp} {e : Expr} {es : List Expr} {t : TA} {p pos : Pos} (hD : Def X.prog X.w X.K X.mg X.base x k ps sp) (hr : Room k X.A) (hg : Gl X x) (hp : Passes CX0 X E0)
    (ha : PA X (e :: es) t) (hdb : (x == ("__debug__" : Str)) = false := by decide) (he : starEach (e :: es) X.env = (false, eval e X.env) :: starEach es X.env := by rfl) (hpl : (backTo pos (starEach es X.env)).any (·.1) = false := by rfl) :
    PE X (.Call (.Name x p) (e :: es) [] pos) (tCall sp [] E0 t) := by
  obtain ⟨f, fd, F, hm, hk, hb⟩ := hD.ex
  exact pe_call F hr hg hm hk hb .nil hp ha hdb he hpl
section
variable {P : Program} {w : World} {K : PySem.W.Frag} {mg : Str → Option Value} {base : Heap}
theorem ok_of {x qual : Str} {st : Stmt} {f : Addr} {fd : FuncData} {N ps : List Str} {k : Nat} {Dom : List Dt → Dt → Prop} (F : Fun K x qual st f fd) (S : FnScope N ps (defScope st)) (hl : ∀ l r, Dom l r → l.length = ps.length)
    (hbody : ∀ (cdv : Value) (A : Around) (outer : List Env) (s : Shared) (H : Hp) (vs : List V) (Q : VK) (E : XK) (l : List Dt) (r : Dt), Room k (A.deeper (envOfC qual (defScope st) s.heap.objs.size f cdv)) → Dom l r → All2 (IsA K H) l vs → (∀ v H', Ex H H' → IsA K H' r v → Q v H') →
      ∃ t, PSs (cxOf CX0 P w K mg base N qual (defScope st) f cdv A outer s H E).nox (defBody st) t ∧ t { nx := fun _ H' => Q .non H', rt := Q } (start N vs) H) : FnOk P w K mg base CX0 (k + 1) f fd ps (spOf K Dom) := by
  refine F.ok S (fun vs H Q E h => ?_) (fun cdv A outer s H vs Q E hr h => ?_)
  · obtain ⟨l, r, hd, ha, _⟩ := h
    rw [ha.len, hl l r hd]
  · obtain ⟨l, r, hd, ha, q⟩ := h
    exact hbody cdv A outer s H vs Q E l r hr hd ha q
theorem def_of {x qual : Str} {st : Stmt} {f : Addr} {fd : FuncData} {ps : List Str} {k : Nat} {sp : Sp} (F : Fun K x qual st f fd) (hm : mg x = some (.ref f)) (hb : Binds K fd ps []) (ok : FnOk P w K mg base CX0 k f fd ps sp) : Def P w K mg base x k ps sp :=
  ⟨f, fd, ok, hm, F.kp, hb⟩
end
end PN
end
section
set_option Elab.async false
set_option maxRecDepth 100000
set_option maxHeartbeats 4000000
set_option linter.all false
/-! sorted of a list of triples of ints, of any length -/
namespace PN
open PySem PySem.Spec PyProof.Rows Srt SrtO
abbrev T3 := Int × Int × Int
def lt3 (p q : T3) : Bool := if p.1 = q.1 then (if p.2.1 = q.2.1 then decide (p.2.2 < q.2.2) else decide (p.2.1 < q.2.1)) else decide (p.1 < q.1)
theorem lt3_iff {p q : T3} : lt3 p q = true ↔ p.1 < q.1 ∨ (p.1 = q.1 ∧ (p.2.1 < q.2.1 ∨ (p.2.1 = q.2.1 ∧ p.2.2 < q.2.2))) := by
  unfold lt3
  split
  · split
    · rw [decide_eq_true_eq]; omega
    · rw [decide_eq_true_eq]; omega
  · rw [decide_eq_true_eq]; omega
theorem lt3_no {p q : T3} : lt3 p q = false ↔ ¬ (p.1 < q.1 ∨ (p.1 = q.1 ∧ (p.2.1 < q.2.1 ∨ (p.2.1 = q.2.1 ∧ p.2.2 < q.2.2)))) := by
  rw [← lt3_iff]
  cases lt3 p q <;> simp
theorem lt3_swo {α : Type} (key : α → T3) : Swo fun v u => lt3 (key v) (key u) := by
  constructor
  · intro x y hxy
    have := lt3_iff.mp hxy
    rw [lt3_no]
    omega
  · intro x y z hxy hyz
    have p1 := lt3_no.mp hxy
    have p2 := lt3_no.mp hyz
    rw [lt3_no]
    omega
def IsTrip (h : Heap) (v : Value) (t : T3) : Prop := ∃ a o t1 t2 t3 n, v = .ref a ∧ h.get? a = some o ∧ o.cls = .type "tuple" ∧ o.data = .seq #[.int t.1 t1, .int t.2.1 t2, .int t.2.2 t3] n
theorem IsTrip.keeps {h h' : Heap} {v : Value} {t : T3} (p : IsTrip h v t) (k : ∀ b o, h.get? b = some o → o.cls = .type "tuple" → h'.get? b = some o) : IsTrip h' v t := by
  obtain ⟨a, o, t1, t2, t3, n, e, ho, hc, hd⟩ := p
  exact ⟨a, o, t1, t2, t3, n, e, k a o ho hc, hc, hd⟩
section
variable {prog : Program} {w : World} {A : Around} {E : Value → Shared → Prop} {s : Shared}
theorem trip_cmp {vs : List Value} {key : Value → T3} (hp : ∀ v ∈ vs, IsTrip s.heap v (key v)) : Cmp prog w A s (tuples' true) (fun p => p.1 ∈ vs) (lt2 fun v u => lt3 (key v) (key u)) := by
  intro p q hm1 hm2
  obtain ⟨a, o, t1, t2, t3, n, e, ho, hc, hd⟩ := hp _ hm1
  obtain ⟨a', o', t1', t2', t3', n', e', ho', hc', hd'⟩ := hp _ hm2
  show wpAny (model prog w) A (keyLt' (tuples' true) p.1 q.1) (fun r s' => s' = s ∧ r = lt3 (key p.1) (key q.1)) (fun _ _ => False) s
  unfold lt3
  generalize key p.1 = P at hd ⊢
  generalize key q.1 = Q at hd' ⊢
  obtain ⟨x, y, z⟩ := P
  obtain ⟨x', y', z'⟩ := Q
  dsimp only at hd hd' ⊢
  rw [e, e']
  refine PySem.W.kat_lt ho hd ho' hd' ?_
  show PySem.W.KatLex prog w A true (decide (3 < 3)) _ [(.int x t1, .int x' t1'), (.int y t2, .int y' t2'), (.int z t3, .int z' t3')] 0 s
  refine PySem.W.kat_cons (SeqAt.EqAt.int_int x t1 x' t1' prog w _ _ ?_)
  refine PySem.W.kat_go (fun c1 => ?_) (fun c1 => ?_)
  · have ex : x = x' := by simpa using c1
    refine PySem.W.kat_yes (PySem.W.kat_cons (SeqAt.EqAt.int_int y t2 y' t2' prog w _ _ ?_))
    refine PySem.W.kat_go (fun c2 => ?_) (fun c2 => ?_)
    · have ey : y = y' := by simpa using c2
      refine PySem.W.kat_yes (PySem.W.kat_cons (SeqAt.EqAt.int_int z t3 z' t3' prog w _ _ ?_))
      refine PySem.W.kat_go (fun c3 => ?_) (fun c3 => ?_)
      · have ez : z = z' := by simpa using c3
        refine PySem.W.kat_yes (PySem.W.kat_nil ⟨rfl, ?_⟩)
        rw [if_pos ex, if_pos ey, ez]
        simp
      · refine PySem.W.kat_no (PySem.W.kat_one _ _ (PyProof.Rows.lt_int ?_))
        refine (show s = s ∧ decide (z < z') = _ from ⟨rfl, ?_⟩)
        rw [if_pos ex, if_pos ey]
    · have ey : ¬ y = y' := by simpa using c2
      refine PySem.W.kat_no (PySem.W.kat_one _ _ (PyProof.Rows.lt_int ?_))
      refine (show s = s ∧ decide (y < y') = _ from ⟨rfl, ?_⟩)
      rw [if_pos ex, if_neg ey]
  · have ex : ¬ x = x' := by simpa using c1
    refine PySem.W.kat_no (oneLt_int ⟨rfl, ?_⟩)
    rw [if_neg ex]
theorem trip_firsts {h : Heap} : ∀ {vs : List Value}, (∀ v ∈ vs, ∃ t, IsTrip h v t) → ∃ fs : List Value, PySem.W.KatTups h vs fs ∧ fs.length = vs.length ∧ ∀ f ∈ fs, ∃ x t, f = Value.int x t
  | [], _ => ⟨[], trivial, rfl, fun _ m => absurd m List.not_mem_nil⟩
  | v :: vs, hp => by
    obtain ⟨fs, q1, q2, q3⟩ := trip_firsts fun u m => hp u (List.mem_cons_of_mem v m)
    obtain ⟨t, a, o, t1, t2, t3, n, rfl, ho, hc, hd⟩ := hp v List.mem_cons_self
    refine ⟨.int t.1 t1 :: fs, .cons ho hc hd rfl q1, congrArg (· + 1) q2, fun g m => ?_⟩
    rcases List.mem_cons.mp m with e | m
    · exact ⟨t.1, t1, e⟩
    · exact q3 g m
theorem trips_sortable {a : Addr} {vs : List Value} {key : Value → T3} (h0 : 0 < vs.length) (hp : ∀ v ∈ vs, IsTrip s.heap v (key v)) (ha : ∀ o, s.heap.get? a = some o → o.cls ≠ .type "tuple") : SortableO prog w A s a vs fun v u => lt3 (key v) (key u) := by
  intro g keep
  have hg : ∀ v ∈ vs, IsTrip g v (key v) := fun v m => (hp v m).keeps fun b o e c => keep b o (by rintro rfl; exact ha o e c) e
  obtain ⟨fs, q1, q2, q3⟩ := trip_firsts fun v m => ⟨_, hg v m⟩
  refine ⟨tuples' true, fun Q E hq => ?_, trip_cmp hg⟩
  have ne : (Value.type "int" != Value.type "tuple") = true := by decide +kernel
  refine PySem.W.kat_kind (T := .type "int") q1 (q2 ▸ h0) (fun v m => ?_) rfl (by rw [ne]; exact hq)
  obtain ⟨x, t, rfl⟩ := q3 v m
  exact PySem.W.Looks.now
theorem sorted_trips {l : Addr} {vs : List Value} {key : Value → T3} {Q : Value → Shared → Prop} (hl : s.heap.IsList l vs.toArray) (hz : vs.length ≤ sizeLine) (hp : ∀ v ∈ vs, IsTrip s.heap v (key v))
    (h : ∀ (h' : Heap) (d : Addr) (out : List Value), Srtd (fun v u => lt3 (key v) (key u)) out → Stb (fun v u => lt3 (key v) (key u)) out vs → (∀ b o, s.heap.get? b = some o → h'.get? b = some o) → s.heap.objs.size ≤ d → (∃ n, h'.get? d = some (seqObj "list" out.toArray n)) → Q (.ref d) { s with heap := h' }) :
    wpAny (model prog w) A (call (.builtin "sorted") [.ref l]) Q E s := by
  refine sorted_ord (lt3_swo key) hl hz (fun h2 g a ha kk => ?_) fun out c1 c2 => ?_
  · refine trips_sortable (s := { s with heap := g }) (Nat.lt_of_lt_of_le (by decide) h2) (fun v m => (hp v m).keeps fun b o e _ => (kk b o e).2) fun o e => ?_
    have e2 : some o = some (seqObj "list" vs.toArray 0) := e.symm.trans ha
    injection e2 with e2
    subst e2
    intro c
    exact absurd (Value.type.inj c) (by decide)
  · exact h _ _ out c1 c2 (fun b o e => sortedAll_old e) (Nat.le_succ _) (sortedAll_at s.heap vs out.toArray)
end
end PN
namespace PN
open PySem PySem.Spec PyProof.Rows L2
/-- sorted(xs), xs a list of triples of ints: a new list of the same, each no more than the next -/
def rSort3 (K : PySem.W.Frag) : List V → Hp → VK → Prop := fun vs H Q => ∃ (a : Addr) (xs : List V) (key : V → T3), vs = [V.ref a] ∧ SqL K H a xs ∧ (∀ x ∈ xs, ∃ t, x = V.ref t ∧ H t = some (.tup [.int (key x).1, .int (key x).2.1, .int (key x).2.2])) ∧
  ∀ ys p, ys.Pairwise (fun x y => lt3 (key y) (key x) = false) → ys.Perm xs → H p = none → Q (.ref p) (upd H p (.lst ys))
theorem cr_sort3 {X : Cx} : CallR X (.builtin "sorted") (rSort3 X.K) := by
  intro pins s σ H vs us Q I r h
  obtain ⟨a, xs, key, rfl, hs, hx, q⟩ := h
  obtain ⟨its, rv, hl, hz⟩ := I.list hs
  obtain ⟨u, rfl, ru⟩ := vals1 r
  obtain rfl : u = Value.ref a := ru
  obtain ⟨c1, c2⟩ := refs_back rv fun x m => (hx x m).imp fun t e => e.1
  refine sorted_trips (key := fun u => key (backV u)) hl.isList (rv.length ▸ hz) (fun v hv => ?_) fun g d out h1 h2 kp hd hn => ?_
  · obtain ⟨t, rfl⟩ := c2 v hv
    obtain ⟨t', e, ht⟩ := hx (V.ref t) (c1 ▸ List.mem_map.mpr ⟨_, hv, rfl⟩)
    cases e
    obtain ⟨_, its2, r2, o, ho, hc, n, hd⟩ := I.hok _ _ ht
    match its2, r2 with
    | [u1, u2, u3], .cons ra (.cons rb (.cons rc .nil)) =>
      obtain ⟨t1, rfl⟩ := ra
      obtain ⟨t2, rfl⟩ := rb
      obtain ⟨t3, rfl⟩ := rc
      exact ⟨t, o, t1, t2, t3, n, rfl, ho, hc, hd⟩
  · have h3 : ∀ u ∈ out, ∃ a, u = Value.ref a := fun u hu => c2 u (h2.perm.mem_iff.mp hu)
    obtain ⟨n, hn⟩ := hn
    have hb : (out.map backV).Perm xs := c1 ▸ h2.perm.map backV
    refine ⟨.ref d, upd H d (.lst (out.map backV)), I.laid (t' := s.toks) kp hd ⟨?_, out, n, vals_back h3, hn⟩, rfl, q _ d (List.pairwise_map.mpr h1) hb (I.hok.fresh hd)⟩
    rw [hb.length_eq]
    exact hz
end PN
end
section
set_option Elab.async false
set_option maxRecDepth 100000
set_option maxHeartbeats 2000000
set_option linter.all false
namespace PN
open PySem PySem.Spec PyProof.Rows L2 Evl
def topS (i : Nat) : Stmt := PySem.Challenge.pw_planenumbers_s01_answers.main.body.getD i (.Pass ⟨0, 0, 0, 0⟩)
/-- a name of the module that holds a value -/
structure GlobV (mg : Str → Option Value) (x : Str) (v : V) : Prop where
  ex : ∃ u, mg x = some u ∧ RelV v u
theorem pe_gv {X : Cx} {x : Str} {v : V} {pos : Pos} (h : GlobV X.mg x v) (hg : Gl X x) (hd : (x == ("__debug__" : Str)) = false := by decide) : PE X (.Name x pos) (tC v) := by
  obtain ⟨u, hm, r⟩ := h.ex
  exact pe_glob hg hm r hd
theorem is_z {K : PySem.W.Frag} {H : Hp} {a b : NZ} {v : V} (h : IsA K H (.z a) v) (e : a = b) : IsA K H (.z b) v := e ▸ h
theorem ev_v {te : TE} {σ : L2.St} {H : Hp} {u v : V} (h : Ev te σ H u) (e : u = v) : Ev te σ H v := e ▸ h
theorem cdivn {i j : Int} (h0 : 0 < j) (h : j < 1073741824) : CDivN i j := ⟨by omega, by omega⟩
theorem x_s {K : PySem.W.Frag} {σ : L2.St} {H : Hp} {i : Nat} {v : V} (h : σ[i]? = some (some v)) : EvX K (tVar i) σ H (.v v) := x_var h rfl
local macro_rules | `(tactic| walk_at "ev") => `(tactic| repeat' first
  | exact ev_c
  | exact ev_var rfl
  | exact ev_x0 (x_var rfl (by assumption))
  | exact ev_x1 (x_var rfl (by assumption))
  | refine' ev_op ?_ ?_ rv_I0
  | refine' ev_op ?_ ?_ (rv_I (C := CMul) ?_)
  | refine' ev_op ?_ ?_ (rv_I (C := CDivN) ?_)
  | refine' ev_eqi ?_ ?_
  | refine' ev_un ?_ ru_neg
  | refine' ev_andV ?_ (fun _ => ?_)
  | exact Or.inl ⟨by omega, by omega⟩
  | exact cdivn (by omega) (by omega))
section
variable {P : Program} {w : World} {K : PySem.W.Frag} {mg : Str → Option Value} {base : Heap} {f : Addr} {fd : FuncData}
/-! times -/
abbrev st_times : Stmt := topS 33
theorem sc_times : FnScope ["kind", "a", "b", "x", "y"] ["kind", "a", "b"] (defScope st_times) := ⟨rfl, rfl, rfl, by decide +kernel, rfl, by decide +kernel, by decide +kernel⟩
def D_times (l : List Dt) (r : Dt) : Prop := ∃ (k : Nat) (a b : NZ), k ≤ 1 ∧ Bd 1152921504606846976 a ∧ Bd 1152921504606846976 b ∧ l = [.v (.int k), .z a, .z b] ∧ r = .z (Na02.times k a b)
theorem ok_times (F : Fun K "times" "times" st_times f fd) : FnOk P w K mg base CX0 1 f fd ["kind", "a", "b"] (spOf K D_times) := by
  refine ok_of F sc_times (fun l r h => by obtain ⟨k, a, b, _, _, _, rfl, _⟩ := h; rfl) (fun cdv A outer s H vs Q E l r hr hd hA q => ?_)
  obtain ⟨k, a, b, hk, ⟨⟨a1, a2⟩, a3, a4⟩, ⟨⟨b1, b2⟩, b3, b4⟩, rfl, rfl⟩ := hd
  obtain ⟨_, va, vb, rfl, rfl, ha, hb⟩ := all2_3 hA; clear hA
  refine ⟨_, (pss_cons (ps_set (i := 3) sc_times.nd rfl (Or.inl rfl) (pe_op op_sub (pe_op op_mul (pe_ix ix_tup (pv 1) pe_int (fun _ _ => rfl)) (pe_ix ix_tup (pv 2) pe_int (fun _ _ => rfl))) (pe_op op_mul (pe_ix ix_tup (pv 1) pe_int (fun _ _ => rfl)) (pe_ix ix_tup (pv 2) pe_int (fun _ _ => rfl)))))
      (pss_cons (ps_set (i := 4) sc_times.nd rfl (Or.inl rfl) (pe_op op_add (pe_op op_mul (pe_ix ix_tup (pv 1) pe_int (fun _ _ => rfl)) (pe_ix ix_tup (pv 2) pe_int (fun _ _ => rfl))) (pe_op op_mul (pe_ix ix_tup (pv 1) pe_int (fun _ _ => rfl)) (pe_ix ix_tup (pv 2) pe_int (fun _ _ => rfl)))))
      (pss_cons (ps_if (pt_cmpR op_eq (pv 0) pe_int (nomark _)) (pss_one (ps_set (i := 4) sc_times.nd rfl (Or.inl rfl) (pe_op op_sub (pv 4) (pe_op op_mul (pe_ix ix_tup (pv 1) pe_int (fun _ _ => rfl)) (pe_ix ix_tup (pv 2) pe_int (fun _ _ => rfl)))))) pss_nil)
      (pss_one (ps_ret (pe_tup (pa_cons (pv 3) (pa_cons (pv 4) pa_nil)))))))), ?_⟩
  refine' q_asg ?h fun H1 e1 => ?_
  case h => walk_at "ev"
  replace ha := IsA.ex e1 ha
  replace hb := IsA.ex e1 hb
  refine' q_asg ?h fun H2 e2 => ?_
  case h => walk_at "ev"
  replace ha := IsA.ex e2 ha
  replace hb := IsA.ex e2 hb
  refine' q_if (et_test ?h) (fun c H3 e3 => ?_) (fun c H3 e3 => ?_)
  case h => walk_at "ev"
  · replace ha := IsA.ex e3 ha
    replace hb := IsA.ex e3 hb
    refine' s_asg ?h fun H4 e4 => ?_
    case h => walk_at "ev"
    dsimp only
    refine' s_retX (K := K) (x_tup2 ?h1 ?h2) fun v H5 e5 h => q v H5 (((e1.trans e2).trans (e3.trans e4)).trans e5) ?_
    case h1 => walk_at "ev"
    case h2 => walk_at "ev"
    have hk1 : k = 1 := by have := of_decide_eq_true c; omega
    subst hk1
    exact h
  · dsimp only [tNext]
    refine' s_retX (K := K) (x_tup2 ?h1 ?h2) fun v H5 e5 h => q v H5 (((e1.trans e2).trans e3).trans e5) ?_
    case h1 => walk_at "ev"
    case h2 => walk_at "ev"
    have hk1 : k = 0 := by have := of_decide_eq_false c; omega
    subst hk1
    exact h
/-! less -/
abbrev st_less : Stmt := topS 34
theorem sc_less : FnScope ["a", "b"] ["a", "b"] (defScope st_less) := ⟨rfl, rfl, rfl, by decide +kernel, rfl, by decide +kernel, by decide +kernel⟩
def D_less (l : List Dt) (r : Dt) : Prop := ∃ (a b : NZ), l = [.z a, .z b] ∧ r = .z (Na02.minus a b)
theorem ok_less (F : Fun K "less" "less" st_less f fd) : FnOk P w K mg base CX0 1 f fd ["a", "b"] (spOf K D_less) := by
  refine ok_of F sc_less (fun l r h => by obtain ⟨a, b, rfl, _⟩ := h; rfl) (fun cdv A outer s H vs Q E l r hr hd hA q => ?_)
  obtain ⟨a, b, rfl, rfl⟩ := hd
  obtain ⟨va, vb, rfl, ha, hb⟩ := all2_2 hA; clear hA
  refine ⟨_, (pss_one (ps_ret (pe_tup (pa_cons (pe_op op_sub (pe_ix ix_tup (pv 0) pe_int (fun _ _ => rfl)) (pe_ix ix_tup (pv 1) pe_int (fun _ _ => rfl))) (pa_cons (pe_op op_sub (pe_ix ix_tup (pv 0) pe_int (fun _ _ => rfl)) (pe_ix ix_tup (pv 1) pe_int (fun _ _ => rfl))) pa_nil))))), ?_⟩
  refine' s_retX (K := K) (x_tup2 ?h1 ?h2) fun v H5 e5 h => q v H5 e5 ?_
  case h1 => walk_at "ev"
  case h2 => walk_at "ev"
  exact h
/-! size -/
abbrev st_size : Stmt := topS 35
theorem sc_size : FnScope ["kind", "a", "squares"] ["kind", "a"] (defScope st_size) := ⟨rfl, rfl, rfl, by decide +kernel, rfl, by decide +kernel, by decide +kernel⟩
def D_size (l : List Dt) (r : Dt) : Prop := ∃ (k : Nat) (a : NZ), k ≤ 1 ∧ Bd 1152921504606846976 a ∧ l = [.v (.int k), .z a] ∧ r = .v (.int (Na02.norm k a))
theorem ok_size (F : Fun K "size" "size" st_size f fd) : FnOk P w K mg base CX0 1 f fd ["kind", "a"] (spOf K D_size) := by
  refine ok_of F sc_size (fun l r h => by obtain ⟨k, a, _, _, rfl, _⟩ := h; rfl) (fun cdv A outer s H vs Q E l r hr hd hA q => ?_)
  obtain ⟨k, a, hk, ⟨⟨a1, a2⟩, a3, a4⟩, rfl, rfl⟩ := hd
  obtain ⟨_, va, rfl, rfl, ha⟩ := all2_2 hA; clear hA
  refine ⟨_, (pss_cons (ps_set (i := 2) sc_size.nd rfl (Or.inl rfl) (pe_op op_add (pe_op op_mul (pe_ix ix_tup (pv 1) pe_int (fun _ _ => rfl)) (pe_ix ix_tup (pv 1) pe_int (fun _ _ => rfl))) (pe_op op_mul (pe_ix ix_tup (pv 1) pe_int (fun _ _ => rfl)) (pe_ix ix_tup (pv 1) pe_int (fun _ _ => rfl)))))
      (pss_cons (ps_if (pt_cmpR op_eq (pv 0) pe_int (nomark _)) (pss_one (ps_ret (pe_op op_sub (pv 2) (pe_op op_mul (pe_ix ix_tup (pv 1) pe_int (fun _ _ => rfl)) (pe_ix ix_tup (pv 1) pe_int (fun _ _ => rfl)))))) pss_nil)
      (pss_one (ps_ret (pv 2))))), ?_⟩
  refine' q_asg ?h fun H1 e1 => ?_
  case h => walk_at "ev"
  replace ha := IsA.ex e1 ha
  refine' q_if (et_test ?h) (fun c H3 e3 => ?_) (fun c H3 e3 => ?_)
  case h => walk_at "ev"
  · replace ha := IsA.ex e3 ha
    refine' s_ret ?h fun H5 e5 => q _ H5 ((e1.trans e3).trans e5) ?_
    case h => walk_at "ev"
    have hk1 : k = 1 := by have := of_decide_eq_true c; omega
    subst hk1
    show V.int _ = V.int _
    congr 1
    show _ = a.x * a.x - a.x * a.y + a.y * a.y
    omega
  · dsimp only [tNext]
    refine' s_ret ?h fun H5 e5 => q _ H5 ((e1.trans e3).trans e5) ?_
    case h => walk_at "ev"
    have hk1 : k = 0 := by have := of_decide_eq_false c; omega
    subst hk1
    rfl
/-! turned_about -/
abbrev st_turned_about : Stmt := topS 36
theorem sc_turned_about : FnScope ["kind", "a"] ["kind", "a"] (defScope st_turned_about) := ⟨rfl, rfl, rfl, by decide +kernel, rfl, by decide +kernel, by decide +kernel⟩
def D_turned (l : List Dt) (r : Dt) : Prop := ∃ (k : Nat) (a : NZ), k ≤ 1 ∧ l = [.v (.int k), .z a] ∧ r = .z (Na02.turned k a)
theorem ok_turned (F : Fun K "turned_about" "turned_about" st_turned_about f fd) : FnOk P w K mg base CX0 1 f fd ["kind", "a"] (spOf K D_turned) := by
  refine ok_of F sc_turned_about (fun l r h => by obtain ⟨k, a, _, rfl, _⟩ := h; rfl) (fun cdv A outer s H vs Q E l r hr hd hA q => ?_)
  obtain ⟨k, a, hk, rfl, rfl⟩ := hd
  obtain ⟨_, va, rfl, rfl, ha⟩ := all2_2 hA; clear hA
  refine ⟨_, (pss_cons (ps_if (pt_cmpR op_eq (pv 0) pe_int (nomark _)) (pss_one (ps_ret (pe_tup (pa_cons (pe_op op_sub (pe_ix ix_tup (pv 1) pe_int (fun _ _ => rfl)) (pe_ix ix_tup (pv 1) pe_int (fun _ _ => rfl))) (pa_cons (pe_un un_neg (pe_ix ix_tup (pv 1) pe_int (fun _ _ => rfl))) pa_nil))))) pss_nil)
      (pss_one (ps_ret (pe_tup (pa_cons (pe_ix ix_tup (pv 1) pe_int (fun _ _ => rfl)) (pa_cons (pe_un un_neg (pe_ix ix_tup (pv 1) pe_int (fun _ _ => rfl))) pa_nil)))))), ?_⟩
  refine' q_if (et_test ?h) (fun c H3 e3 => ?_) (fun c H3 e3 => ?_)
  case h => walk_at "ev"
  · replace ha := IsA.ex e3 ha
    refine' s_retX (K := K) (x_tup2 ?h1 ?h2) fun v H5 e5 h => q v H5 (e3.trans e5) ?_
    case h1 => walk_at "ev"
    case h2 => walk_at "ev"
    have hk1 : k = 1 := by have := of_decide_eq_true c; omega
    subst hk1
    exact h
  · replace ha := IsA.ex e3 ha
    dsimp only [tNext]
    refine' s_retX (K := K) (x_tup2 ?h1 ?h2) fun v H5 e5 h => q v H5 (e3.trans e5) ?_
    case h1 => walk_at "ev"
    case h2 => walk_at "ev"
    have hk1 : k = 0 := by have := of_decide_eq_false c; omega
    subst hk1
    exact h
/-! in_first_part -/
abbrev st_in_first_part : Stmt := topS 37
theorem sc_in_first_part : FnScope ["kind", "a"] ["kind", "a"] (defScope st_in_first_part) := ⟨rfl, rfl, rfl, by decide +kernel, rfl, by decide +kernel, by decide +kernel⟩
def D_first (l : List Dt) (r : Dt) : Prop := ∃ (k : Nat) (a : NZ), k ≤ 1 ∧ l = [.v (.int k), .z a] ∧ r = .v (.bl (Na02.first k a))
theorem ok_first (F : Fun K "in_first_part" "in_first_part" st_in_first_part f fd) : FnOk P w K mg base CX0 1 f fd ["kind", "a"] (spOf K D_first) := by
  refine ok_of F sc_in_first_part (fun l r h => by obtain ⟨k, a, _, rfl, _⟩ := h; rfl) (fun cdv A outer s H vs Q E l r hr hd hA q => ?_)
  obtain ⟨k, a, hk, rfl, rfl⟩ := hd
  obtain ⟨_, va, rfl, rfl, ha⟩ := all2_2 hA; clear hA
  refine ⟨_, (pss_cons (ps_if (pt_cmpR op_eq (pv 0) pe_int (nomark _)) (pss_one (ps_ret (pe_and (pe_cmpR op_le pe_int (pe_ix ix_tup (pv 1) pe_int (fun _ _ => rfl)) (nomark _)) (pe_one (pe_cmpR op_lt (pe_ix ix_tup (pv 1) pe_int (fun _ _ => rfl)) (pe_ix ix_tup (pv 1) pe_int (fun _ _ => rfl)) (nomark _)))))) pss_nil)
      (pss_one (ps_ret (pe_and (pe_cmpR op_gt (pe_ix ix_tup (pv 1) pe_int (fun _ _ => rfl)) pe_int (nomark _)) (pe_one (pe_cmpR op_ge (pe_ix ix_tup (pv 1) pe_int (fun _ _ => rfl)) pe_int (nomark _))))))), ?_⟩
  refine' q_if (et_test ?h) (fun c H3 e3 => ?_) (fun c H3 e3 => ?_)
  case h => walk_at "ev"
  · replace ha := IsA.ex e3 ha
    refine' s_ret ?h fun H5 e5 => q _ H5 (e3.trans e5) ?_
    case h => walk_at "ev"
    have hk1 : k = 1 := by have := of_decide_eq_true c; omega
    subst hk1
    show V.bl (decide (0 ≤ a.y) && decide (a.y < a.x)) = V.bl (decide (a.y < a.x) && decide (0 ≤ a.y))
    rw [Bool.and_comm]
  · replace ha := IsA.ex e3 ha
    dsimp only [tNext]
    refine' s_ret ?h fun H5 e5 => q _ H5 (e3.trans e5) ?_
    case h => walk_at "ev"
    have hk1 : k = 0 := by have := of_decide_eq_false c; omega
    subst hk1
    rfl
/-! nearest -/
abbrev st_nearest : Stmt := topS 39
theorem sc_nearest : FnScope ["u", "n"] ["u", "n"] (defScope st_nearest) := ⟨rfl, rfl, rfl, by decide +kernel, rfl, by decide +kernel, by decide +kernel⟩
def D_nearest (l : List Dt) (r : Dt) : Prop := ∃ (u n : Int), 0 < n ∧ n < 268435456 ∧ l = [.v (.int u), .v (.int n)] ∧ r = .v (.int (Na02.round_ u n))
theorem ok_nearest (F : Fun K "nearest" "nearest" st_nearest f fd) : FnOk P w K mg base CX0 1 f fd ["u", "n"] (spOf K D_nearest) := by
  refine ok_of F sc_nearest (fun l r h => by obtain ⟨u, n, _, _, rfl, _⟩ := h; rfl) (fun cdv A outer s H vs Q E l r hr hd hA q => ?_)
  obtain ⟨u, n, h0, h1, rfl, rfl⟩ := hd
  obtain ⟨_, _, rfl, rfl, rfl⟩ := all2_2 hA; clear hA
  refine ⟨_, (pss_one (ps_ret (pe_op op_fdivN (pe_op op_add (pe_op op_mul pe_int (pv 0)) (pv 1)) (pe_op op_mul pe_int (pv 1))))), ?_⟩
  refine' s_ret ?h fun H5 e5 => q _ H5 e5 ?_
  case h => walk_at "ev"
  rfl
/-! quotient -/
abbrev st_quotient : Stmt := topS 40
theorem sc_quotient : FnScope ["kind", "a", "b", "n", "turned"] ["kind", "a", "b"] (defScope st_quotient) := ⟨rfl, rfl, rfl, by decide +kernel, rfl, by decide +kernel, by decide +kernel⟩
def D_quot (l : List Dt) (r : Dt) : Prop := ∃ (k : Nat) (a b : NZ), k ≤ 1 ∧ Bd 1073741824 a ∧ Bd 9000 b ∧ b ≠ Na02.zero ∧ l = [.v (.int k), .z a, .z b] ∧ r = .z (Na02.quot k a b)
theorem ok_quot (F : Fun K "quotient" "quotient" st_quotient f fd) (d_size : Def P w K mg base "size" 1 ["kind", "a"] (spOf K D_size)) (d_times : Def P w K mg base "times" 1 ["kind", "a", "b"] (spOf K D_times))
    (d_turned_about : Def P w K mg base "turned_about" 1 ["kind", "a"] (spOf K D_turned)) (d_nearest : Def P w K mg base "nearest" 1 ["u", "n"] (spOf K D_nearest)) : FnOk P w K mg base CX0 2 f fd ["kind", "a", "b"] (spOf K D_quot) := by
  refine ok_of F sc_quotient (fun l r h => by obtain ⟨k, a, b, _, _, _, _, rfl, _⟩ := h; rfl) (fun cdv A outer s H vs Q E l r hr hd hA q => ?_)
  obtain ⟨k, a, b, hk, ba, bb, nb, rfl, rfl⟩ := hd
  obtain ⟨_, va, vb, rfl, rfl, ha, hb⟩ := all2_3 hA; clear hA
  have hn := norm_pos (k := k) nb
  have hn2 := norm_bd (k := k) bb
  refine ⟨_, (pss_cons (ps_set (i := 3) sc_quotient.nd rfl (Or.inl rfl) (pe_cd d_size (hr.mono (by decide)) (by rfl) pass0 (pa_cons (pv 0) (pa_cons (pv 2) pa_nil))))
      (pss_cons (ps_set (i := 4) sc_quotient.nd rfl (Or.inl rfl) (pe_cd d_times (hr.mono (by decide)) (by rfl) pass0 (pa_cons (pv 0) (pa_cons (pv 1) (pa_cons (pe_cd d_turned_about (hr.mono (by decide)) (by rfl) pass0 (pa_cons (pv 0) (pa_cons (pv 2) pa_nil))) pa_nil)))))
      (pss_one (ps_ret (pe_tup (pa_cons (pe_cd d_nearest (hr.mono (by decide)) (by rfl) pass0 (pa_cons (pe_ix ix_tup (pv 4) pe_int (fun _ _ => rfl)) (pa_cons (pv 3) pa_nil))) (pa_cons (pe_cd d_nearest (hr.mono (by decide)) (by rfl) pass0 (pa_cons (pe_ix ix_tup (pv 4) pe_int (fun _ _ => rfl)) (pa_cons (pv 3) pa_nil))) pa_nil))))))), ?_⟩
  refine' q_asgX (K := K) (x_call (ax_cons (x_s rfl) (ax_cons (x_var rfl hb) ax_nil)) ⟨k, b, hk, bb.mono (by decide), rfl, rfl⟩) fun v H1 e1 h1 => ?_
  cases h1
  replace ha := IsA.ex e1 ha
  replace hb := IsA.ex e1 hb
  refine' q_asgX (K := K) (x_call (ax_cons (x_s rfl) (ax_cons (x_var rfl ha) (ax_cons (x_call (ax_cons (x_s rfl) (ax_cons (x_var rfl hb) ax_nil)) ⟨k, b, hk, rfl, rfl⟩) ax_nil))) ⟨k, a, _, hk, ba.mono (by decide), (turned_bd bb).mono (by decide), rfl, rfl⟩) fun vt H2 e2 ht => ?_
  refine' s_retX (K := K) (x_tup2 ?h1 ?h2) fun v H5 e5 h => q v H5 ((e1.trans e2).trans e5) ?_
  case h1 => exact (x_call (K := K) (ax_cons (ev_x (ev_x0 (x_var rfl ht))) (ax_cons (x_s rfl) ax_nil)) ⟨_, _, hn, by omega, rfl, rfl⟩).ev
  case h2 => exact (x_call (K := K) (ax_cons (ev_x (ev_x1 (x_var rfl ht))) (ax_cons (x_s rfl) ax_nil)) ⟨_, _, hn, by omega, rfl, rfl⟩).ev
  exact h
/-! rest -/
abbrev st_rest : Stmt := topS 41
theorem sc_rest : FnScope ["kind", "a", "b"] ["kind", "a", "b"] (defScope st_rest) := ⟨rfl, rfl, rfl, by decide +kernel, rfl, by decide +kernel, by decide +kernel⟩
def D_rest (l : List Dt) (r : Dt) : Prop := ∃ (k : Nat) (a b : NZ), k ≤ 1 ∧ Bd 1073741824 a ∧ Bd 9000 b ∧ b ≠ Na02.zero ∧ l = [.v (.int k), .z a, .z b] ∧ r = .z (Na02.rest k a b)
theorem ok_rest (F : Fun K "rest" "rest" st_rest f fd) (d_less : Def P w K mg base "less" 1 ["a", "b"] (spOf K D_less)) (d_times : Def P w K mg base "times" 1 ["kind", "a", "b"] (spOf K D_times))
    (d_quotient : Def P w K mg base "quotient" 2 ["kind", "a", "b"] (spOf K D_quot)) : FnOk P w K mg base CX0 3 f fd ["kind", "a", "b"] (spOf K D_rest) := by
  refine ok_of F sc_rest (fun l r h => by obtain ⟨k, a, b, _, _, _, _, rfl, _⟩ := h; rfl) (fun cdv A outer s H vs Q E l r hr hd hA q => ?_)
  obtain ⟨k, a, b, hk, ba, bb, nb, rfl, rfl⟩ := hd
  obtain ⟨_, va, vb, rfl, rfl, ha, hb⟩ := all2_3 hA; clear hA
  refine ⟨_, (pss_one (ps_ret (pe_cd d_less (hr.mono (by decide)) (by rfl) pass0 (pa_cons (pv 1) (pa_cons (pe_cd d_times (hr.mono (by decide)) (by rfl) pass0 (pa_cons (pv 0) (pa_cons (pv 2) (pa_cons (pe_cd d_quotient (hr.mono (by decide)) (by rfl) pass0 (pa_cons (pv 0) (pa_cons (pv 1) (pa_cons (pv 2) pa_nil)))) pa_nil)))) pa_nil))))), ?_⟩
  refine' s_retX (K := K) (x_call (ax_cons (x_var rfl ha) (ax_cons (x_call (ax_cons (x_s rfl) (ax_cons (x_var rfl hb) (ax_cons (x_call (ax_cons (x_s rfl) (ax_cons (x_var rfl ha) (ax_cons (x_var rfl hb) ax_nil))) ⟨k, a, b, hk, ba, bb, nb, rfl, rfl⟩) ax_nil)))
    ⟨k, b, _, hk, bb.mono (by decide), (quot_bd nb ba bb).mono (by decide), rfl, rfl⟩) ax_nil)) ⟨_, _, rfl, rfl⟩) fun v H5 e5 h => q v H5 e5 ?_
  exact h
end
end PN
end
section
set_option Elab.async false
set_option maxRecDepth 100000
set_option maxHeartbeats 2000000
set_option linter.all false
namespace PN
open PySem PySem.Spec PyProof.Rows L2 Evl
local macro_rules | `(tactic| walk_at "ev") => `(tactic| repeat' first
  | exact ev_c
  | exact ev_var rfl
  | exact ev_x0 (x_var rfl (by assumption))
  | exact ev_x1 (x_var rfl (by assumption))
  | refine' ev_op ?_ ?_ rv_I0
  | refine' ev_op ?_ ?_ (rv_I (C := CMul) ?_)
  | refine' ev_op ?_ ?_ (rv_I (C := CDivN) ?_)
  | refine' ev_eqi ?_ ?_
  | refine' ev_un ?_ ru_neg
  | refine' ev_andV ?_ (fun _ => ?_)
  | exact Or.inl ⟨by omega, by omega⟩
  | exact cdivn (by omega) (by omega))
/-- a tuple that the module's top has written -/
def KT (K : PySem.W.Frag) (a : Addr) (xs : List V) : Prop := ∃ (o : Obj) (its : Array Value) (n : Nat), K.lookup a = some o ∧ o.cls = .type "tuple" ∧ o.data = .seq its n ∧ its.size ≤ sizeLine ∧ Vals xs its.toList
theorem KT.sq {K : PySem.W.Frag} {a : Addr} {xs : List V} (h : KT K a xs) (H : Hp) : SqT K H a xs := Or.inr h
/-- what the top has written -/
structure Gs (K : PySem.W.Frag) (mg : Str → Option Value) (pz pt t0 t1 : Addr) : Prop where
  gz : GlobV mg "ZERO" (.ref pz)
  kz : KT K pz (zt Na02.zero)
  gt : GlobV mg "TURNS" (.ref pt)
  kt : KT K pt [.ref t0, .ref t1]
  k0 : KT K t0 (zt ⟨0, 1⟩)
  k1 : KT K t1 (zt ⟨1, 1⟩)
theorem Gs.zero {K : PySem.W.Frag} {mg : Str → Option Value} {pz pt t0 t1 : Addr} (g : Gs K mg pz pt t0 t1) (H : Hp) : IsA K H (.z Na02.zero) (.ref pz) := ⟨pz, rfl, g.kz.sq H⟩
theorem q_while {σ : L2.St} {H : Hp} {D : Ends} {t : TT} {tu tz : TS} (W : Nat → L2.St → Hp → Prop) (m0 : Nat) (h0 : W m0 σ H)
    (hs : ∀ m σ' H', W m σ' H' → ∃ b, EvT t σ' H' b ∧ (b = true → ∀ H1, Ex H' H1 → ∃ N : L2.St → Hp → Prop, (∀ σ2 H2, N σ2 H2 → ∃ m', m' < m ∧ W m' σ2 H2) ∧ tu { D with nx := N, ct := N, bk := tz D } σ' H1) ∧ (b = false → ∀ H1, Ex H' H1 → tz D σ' H1)) : tSeq (tWhile t tu) tz D σ H :=
  s_while (D := { D with nx := tz D }) W m0 h0 hs
theorem x_cast {K : PySem.W.Frag} {te : TE} {σ : L2.St} {H : Hp} {d d' : Dt} (h : EvX K te σ H d) (e : d = d') : EvX K te σ H d' := e ▸ h
section
variable {P : Program} {w : World} {K : PySem.W.Frag} {mg : Str → Option Value} {base : Heap} {f : Addr} {fd : FuncData} {pz pt t0 t1 : Addr}
theorem x_turn {σ : L2.St} {H : Hp} {i k : Nat} (g : Gs K mg pz pt t0 t1) (hk : k ≤ 1) (h : σ[i]? = some (some (.int (k : Int)))) : EvX K (tOp (rIxT K) (tC (.ref pt)) (tVar i)) σ H (.z (tn k)) := by
  intro H1 e Q q
  have h2 : k = 0 ∨ k = 1 := by omega
  rcases h2 with rfl | rfl
  · exact ⟨_, h, pt, _, _, .ref t0, rfl, rfl, g.kt.sq H1, rfl, q _ H1 (Ex.refl H1) ⟨t0, rfl, g.k0.sq H1⟩⟩
  · exact ⟨_, h, pt, _, _, .ref t1, rfl, rfl, g.kt.sq H1, rfl, q _ H1 (Ex.refl H1) ⟨t1, rfl, g.k1.sq H1⟩⟩
/-! form -/
abbrev st_form : Stmt := topS 38
theorem sc_form : FnScope ["kind", "a", "turned"] ["kind", "a"] (defScope st_form) := ⟨rfl, rfl, rfl, by decide +kernel, rfl, by decide +kernel, by decide +kernel⟩
def D_form (l : List Dt) (r : Dt) : Prop := ∃ (k : Nat) (a : NZ), k ≤ 1 ∧ Bd 1000000 a ∧ l = [.v (.int k), .z a] ∧ r = .z (Na02.form k a)
theorem ok_form (F : Fun K "form" "form" st_form f fd) (g : Gs K mg pz pt t0 t1) (d_times : Def P w K mg base "times" 1 ["kind", "a", "b"] (spOf K D_times))
    (d_in_first_part : Def P w K mg base "in_first_part" 1 ["kind", "a"] (spOf K D_first)) : FnOk P w K mg base CX0 2 f fd ["kind", "a"] (spOf K D_form) := by
  have g_ZERO := g.gz
  have g_TURNS := g.gt
  refine ok_of F sc_form (fun l r h => by obtain ⟨k, a, _, _, rfl, _⟩ := h; rfl) (fun cdv A outer s H vs Q E l r hr hd hA q => ?_)
  obtain ⟨k, a, hk, ba, rfl, rfl⟩ := hd
  obtain ⟨_, va, rfl, rfl, ha⟩ := all2_2 hA; clear hA
  refine ⟨_, (pss_cons (ps_if (pt_cmpR (op_eqD hr.units) (pv 1) (pe_gv g_ZERO (by rfl)) (nomark _)) (pss_one (ps_ret (pe_gv g_ZERO (by rfl)))) pss_nil)
      (pss_cons (ps_set (i := 2) sc_form.nd rfl (Or.inl rfl) (pv 1))
      (pss_cons (ps_while PassesOwn.never (pt_not (pt_val (pe_cd d_in_first_part (hr.mono (by decide)) (by rfl) pass0 (pa_cons (pv 0) (pa_cons (pv 2) pa_nil))))) (pss_one (ps_set (i := 2) sc_form.nd rfl (Or.inl rfl) (pe_cd d_times (hr.mono (by decide)) (by rfl) pass0 (pa_cons (pv 0) (pa_cons (pv 2) (pa_cons (pe_ix ix_tup (pe_gv g_TURNS (by rfl)) (pv 0) (fun _ _ => rfl)) pa_nil)))))))
      (pss_one (ps_ret (pv 2)))))), ?_⟩
  refine' q_if (et_test (ev_eqz (x_var rfl ha) (x_c (g.zero H)))) (fun c H3 e3 => ?_) (fun c H3 e3 => ?_)
  · have c2 := of_decide_eq_true c
    subst c2
    refine' s_retX (K := K) (x_c (g.zero H3)) fun v H5 e5 h => q v H5 (e3.trans e5) ?_
    exact is_z h (form_zero k).symm
  · have c2 := of_decide_eq_false c
    replace ha := IsA.ex e3 ha
    dsimp only [tNext]
    refine' q_asgX (K := K) (x_var rfl ha) fun v H1 e1 h1 => ?_
    refine' q_while (fun m σ' H' => ∃ z v, σ' = [some (.int k), some va, some v] ∧ Ex H H' ∧ IsA K H' (.z z) v ∧ z ≠ Na02.zero ∧ Na02.norm k z = Na02.norm k a ∧ Na02.form k z = Na02.form k a ∧ m = left k z) _ ⟨a, v, rfl, e3.trans e1, h1, c2, rfl, rfl, rfl⟩ ?_
    rintro m σ' H' ⟨z, u, rfl, e4, hz, nz, en, ef, rfl⟩
    have bz : Bd 2000000 z := bd_norm (k := k) (by decide) (by have := norm_bd (k := k) ba; omega)
    refine' ⟨_, et_not (et_B (x_call (K := K) (ax_cons (x_s rfl) (ax_cons (x_var rfl hz) ax_nil)) ⟨k, z, hk, rfl, rfl⟩).ev), fun hb H1 e1 => ?_, fun hb H1 e1 => ?_⟩
    · have hf : Na02.first k z = false := by
        cases q : Na02.first k z with
        | true => rw [q] at hb; cases hb
        | false => rfl
      replace hz := IsA.ex e1 hz
      refine ⟨fun σ2 H2 => ∃ m', m' < left k z ∧ ∃ z v, σ2 = [some (.int k), some va, some v] ∧ Ex H H2 ∧ IsA K H2 (.z z) v ∧ z ≠ Na02.zero ∧ Na02.norm k z = Na02.norm k a ∧ Na02.form k z = Na02.form k a ∧ m' = left k z, fun _ _ h => h, ?_⟩
      refine' s_asgX (K := K) (x_call (ax_cons (x_s rfl) (ax_cons (x_var rfl hz) (ax_cons (x_turn g hk rfl) ax_nil))) ⟨k, z, tn k, hk, bz.mono (by decide), ?b, rfl, rfl⟩) fun v H2 e2 h2 => ?_
      case b =>
        have h2 : k = 0 ∨ k = 1 := by omega
        rcases h2 with rfl | rfl <;> exact ⟨⟨by decide, by decide⟩, by decide, by decide⟩
      have en2 : Na02.norm k (Na02.times k z (tn k)) = Na02.norm k z := by rw [norm_times, norm_tn, Int.mul_one]
      refine ⟨_, left_step nz hf, _, v, rfl, (e4.trans e1).trans e2, h2, ?_, by omega, by rw [form_tn, ef], rfl⟩
      exact ne_zero_of_norm (k := k) (by rw [en2]; have := norm_pos (k := k) nz; omega)
    · have hf : Na02.first k z = true := by
        cases q : Na02.first k z with
        | true => rfl
        | false => rw [q] at hb; cases hb
      replace hz := IsA.ex e1 hz
      refine' s_retX (K := K) (x_var rfl hz) fun v H5 e5 h => q v H5 ((e4.trans e1).trans e5) ?_
      exact is_z h (by rw [← ef, form_first hf])
/-! common -/
abbrev st_common : Stmt := topS 45
theorem sc_common : FnScope ["kind", "a", "b", "first", "second", "left"] ["kind", "a", "b"] (defScope st_common) := ⟨rfl, rfl, rfl, by decide +kernel, rfl, by decide +kernel, by decide +kernel⟩
def D_common (l : List Dt) (r : Dt) : Prop := ∃ (k : Nat) (a b : NZ), k ≤ 1 ∧ Bd 1000 a ∧ Bd 1000 b ∧ l = [.v (.int k), .z a, .z b] ∧ r = .z (Na02.common k a b)
theorem ok_common (F : Fun K "common" "common" st_common f fd) (g : Gs K mg pz pt t0 t1) (d_rest : Def P w K mg base "rest" 3 ["kind", "a", "b"] (spOf K D_rest))
    (d_form : Def P w K mg base "form" 2 ["kind", "a"] (spOf K D_form)) : FnOk P w K mg base CX0 4 f fd ["kind", "a", "b"] (spOf K D_common) := by
  have g_ZERO := g.gz
  refine ok_of F sc_common (fun l r h => by obtain ⟨k, a, b, _, _, _, rfl, _⟩ := h; rfl) (fun cdv A outer s H vs Q E l r hr hd hA q => ?_)
  obtain ⟨k, a, b, hk, ba, bb, rfl, rfl⟩ := hd
  obtain ⟨_, va, vb, rfl, rfl, ha, hb⟩ := all2_3 hA; clear hA
  refine ⟨_, (pss_cons (ps_set (i := 3) sc_common.nd rfl (Or.inl rfl) (pv 1))
      (pss_cons (ps_set (i := 4) sc_common.nd rfl (Or.inl rfl) (pv 2))
      (pss_cons (ps_while PassesOwn.never (pt_cmpR (op_neD hr.units) (pv 4) (pe_gv g_ZERO (by rfl)) (nomark _)) (pss_cons (ps_set (i := 5) sc_common.nd rfl (Or.inl rfl) (pe_cd d_rest (hr.mono (by decide)) (by rfl) pass0 (pa_cons (pv 0) (pa_cons (pv 3) (pa_cons (pv 4) pa_nil)))))
      (pss_cons (ps_set (i := 3) sc_common.nd rfl (Or.inl rfl) (pv 4))
      (pss_one (ps_set (i := 4) sc_common.nd rfl (Or.inl rfl) (pv 5))))))
      (pss_one (ps_ret (pe_cd d_form (hr.mono (by decide)) (by rfl) pass0 (pa_cons (pv 0) (pa_cons (pv 3) pa_nil)))))))), ?_⟩
  refine' q_asgX (K := K) (x_var rfl ha) fun v1 H1 e1 h1 => ?_
  replace hb := IsA.ex e1 hb
  refine' q_asgX (K := K) (x_var rfl hb) fun v2 H2 e2 h2 => ?_
  replace h1 := IsA.ex e2 h1
  refine' q_while (fun m σ' H' => ∃ z1 z2 v1 v2 lv, σ' = [some (.int k), some va, some vb, some v1, some v2, lv] ∧ Ex H H' ∧ IsA K H' (.z z1) v1 ∧ IsA K H' (.z z2) v2 ∧ gcd k z1 z2 = gcd k a b ∧ Na02.norm k z1 ≤ 3000000 ∧ Na02.norm k z2 ≤ 3000000 ∧ m = (Na02.norm k z2).toNat) _
    ⟨a, b, v1, v2, none, rfl, e1.trans e2, h1, h2, rfl, norm_bd ba, norm_bd bb, rfl⟩ ?_
  rintro m σ' H' ⟨z1, z2, w1, w2, lv, rfl, e4, hz1, hz2, eg, n1, n2, rfl⟩
  have b1 : Bd 2000 z1 := bd_norm (k := k) (by decide) (by omega)
  have b2 : Bd 2000 z2 := bd_norm (k := k) (by decide) (by omega)
  refine' ⟨_, et_test (ev_nez (x_var rfl hz2) (x_c (g.zero H'))), fun c H3 e3 => ?_, fun c H3 e3 => ?_⟩
  · have c2 : z2 ≠ Na02.zero := by
      intro z
      rw [z] at c
      simp at c
    replace hz1 := IsA.ex e3 hz1
    replace hz2 := IsA.ex e3 hz2
    refine ⟨fun σ2 H2 => ∃ m', m' < (Na02.norm k z2).toNat ∧ ∃ z1 z2 v1 v2 lv, σ2 = [some (.int k), some va, some vb, some v1, some v2, lv] ∧ Ex H H2 ∧ IsA K H2 (.z z1) v1 ∧ IsA K H2 (.z z2) v2 ∧ gcd k z1 z2 = gcd k a b ∧ Na02.norm k z1 ≤ 3000000 ∧ Na02.norm k z2 ≤ 3000000 ∧ m' = (Na02.norm k z2).toNat, fun _ _ h => h, ?_⟩
    refine' q_asgX (K := K) (x_call (ax_cons (x_s rfl) (ax_cons (x_var rfl hz1) (ax_cons (x_var rfl hz2) ax_nil))) ⟨k, z1, z2, hk, b1.mono (by decide), b2.mono (by decide), c2, rfl, rfl⟩) fun v3 H5 e5 h3 => ?_
    replace hz2 := IsA.ex e5 hz2
    refine' q_asgX (K := K) (x_var rfl hz2) fun v4 H6 e6 h4 => ?_
    replace h3 := IsA.ex e6 h3
    refine' s_asgX (K := K) (x_var rfl h3) fun v5 H7 e7 h5 => ?_
    replace h4 := IsA.ex e7 h4
    have hr1 := rest_norm (k := k) (a := z1) c2
    have hr2 := norm_nonneg k (Na02.rest k z1 z2)
    exact ⟨_, by omega, z2, _, v4, v5, _, rfl, (e4.trans e3).trans ((e5.trans e6).trans e7), h4, h5, by rw [← eg, gcd_step c2], n2, by omega, rfl⟩
  · have c2 : z2 = Na02.zero := by
      rcases Decidable.em (z2 = Na02.zero) with h | h
      · exact h
      · simp [h] at c
    replace hz1 := IsA.ex e3 hz1
    refine' s_retX (K := K) (x_call (ax_cons (x_s rfl) (ax_cons (x_var rfl hz1) ax_nil)) ⟨k, z1, hk, b1.mono (by decide), rfl, rfl⟩) fun v H5 e5 h => q v H5 ((e4.trans e3).trans e5) ?_
    refine is_z h ?_
    rw [common_gcd, ← eg, c2, gcd_zero]
theorem divides_zero (k : Nat) (a : NZ) : Na02.divides k Na02.zero a = decide (a = Na02.zero) := by
  unfold Na02.divides
  rw [if_pos rfl]
  rfl
/-! divides -/
abbrev st_divides : Stmt := topS 42
theorem sc_divides : FnScope ["kind", "b", "a"] ["kind", "b", "a"] (defScope st_divides) := ⟨rfl, rfl, rfl, by decide +kernel, rfl, by decide +kernel, by decide +kernel⟩
def D_divides (l : List Dt) (r : Dt) : Prop := ∃ (k : Nat) (b a : NZ), k ≤ 1 ∧ Bd 1073741824 a ∧ Bd 9000 b ∧ l = [.v (.int k), .z b, .z a] ∧ r = .v (.bl (Na02.divides k b a))
theorem ok_divides (F : Fun K "divides" "divides" st_divides f fd) (g : Gs K mg pz pt t0 t1) (d_rest : Def P w K mg base "rest" 3 ["kind", "a", "b"] (spOf K D_rest)) : FnOk P w K mg base CX0 4 f fd ["kind", "b", "a"] (spOf K D_divides) := by
  have g_ZERO := g.gz
  refine ok_of F sc_divides (fun l r h => by obtain ⟨k, b, a, _, _, _, rfl, _⟩ := h; rfl) (fun cdv A outer s H vs Q E l r hr hd hA q => ?_)
  obtain ⟨k, b, a, hk, ba, bb, rfl, rfl⟩ := hd
  obtain ⟨_, vb, va, rfl, rfl, hb, ha⟩ := all2_3 hA; clear hA
  refine ⟨_, (pss_cons (ps_if (pt_cmpR (op_eqD hr.units) (pv 1) (pe_gv g_ZERO (by rfl)) (nomark _)) (pss_one (ps_ret (pe_cmpR (op_eqD hr.units) (pv 2) (pe_gv g_ZERO (by rfl)) (nomark _)))) pss_nil)
      (pss_one (ps_ret (pe_cmpR (op_eqD hr.units) (pe_cd d_rest (hr.mono (by decide)) (by rfl) pass0 (pa_cons (pv 0) (pa_cons (pv 2) (pa_cons (pv 1) pa_nil)))) (pe_gv g_ZERO (by rfl)) (nomark _))))), ?_⟩
  refine' q_if (et_test (ev_eqz (x_var rfl hb) (x_c (g.zero H)))) (fun c H3 e3 => ?_) (fun c H3 e3 => ?_)
  · have c2 := of_decide_eq_true c
    subst c2
    replace ha := IsA.ex e3 ha
    refine' s_ret (ev_eqz (x_var rfl ha) (x_c (g.zero H3))) fun H5 e5 => q _ H5 (e3.trans e5) ?_
    show V.bl _ = V.bl _
    rw [divides_zero]
  · have c2 := of_decide_eq_false c
    replace ha := IsA.ex e3 ha
    replace hb := IsA.ex e3 hb
    dsimp only [tNext]
    refine' s_ret (ev_eqz (x_call (K := K) (ax_cons (x_s rfl) (ax_cons (x_var rfl ha) (ax_cons (x_var rfl hb) ax_nil))) ⟨k, a, b, hk, ba, bb, c2, rfl, rfl⟩) (x_c (g.zero H3))) fun H5 e5 => q _ H5 (e3.trans e5) ?_
    show V.bl _ = V.bl _
    rw [rest_zero_dec c2]
theorem minus_bd {a b : NZ} {B C : Int} (h : Bd B a) (g : Bd C b) : Bd (B + C) (Na02.minus a b) := by
  obtain ⟨⟨a1, a2⟩, a3, a4⟩ := h
  obtain ⟨⟨b1, b2⟩, b3, b4⟩ := g
  refine ⟨⟨?_, ?_⟩, ?_, ?_⟩ <;> simp only [Na02.minus] <;> omega
/-! are_alike -/
abbrev st_are_alike : Stmt := topS 43
theorem sc_are_alike : FnScope ["kind", "a", "b", "m"] ["kind", "a", "b", "m"] (defScope st_are_alike) := ⟨rfl, rfl, rfl, by decide +kernel, rfl, by decide +kernel, by decide +kernel⟩
def D_alike (l : List Dt) (r : Dt) : Prop := ∃ (k : Nat) (a b m : NZ), k ≤ 1 ∧ Bd 100 a ∧ Bd 100 b ∧ Bd 100 m ∧ l = [.v (.int k), .z a, .z b, .z m] ∧ r = .v (.bl (Na02.divides k m (Na02.minus a b)))
theorem ok_alike (F : Fun K "are_alike" "are_alike" st_are_alike f fd) (d_less : Def P w K mg base "less" 1 ["a", "b"] (spOf K D_less)) (d_divides : Def P w K mg base "divides" 4 ["kind", "b", "a"] (spOf K D_divides)) : FnOk P w K mg base CX0 5 f fd ["kind", "a", "b", "m"] (spOf K D_alike) := by
  refine ok_of F sc_are_alike (fun l r h => by obtain ⟨k, a, b, m, _, _, _, _, rfl, _⟩ := h; rfl) (fun cdv A outer s H vs Q E l r hr hd hA q => ?_)
  obtain ⟨k, a, b, m, hk, ba, bb, bm, rfl, rfl⟩ := hd
  obtain ⟨_, va, vb, vm, rfl, rfl, ha, hb, hm⟩ := all2_4 hA; clear hA
  refine ⟨_, (pss_one (ps_ret (pe_cd d_divides (hr.mono (by decide)) (by rfl) pass0 (pa_cons (pv 0) (pa_cons (pv 3) (pa_cons (pe_cd d_less (hr.mono (by decide)) (by rfl) pass0 (pa_cons (pv 1) (pa_cons (pv 2) pa_nil))) pa_nil)))))), ?_⟩
  refine' s_retX (K := K) (x_call (ax_cons (x_s rfl) (ax_cons (x_var rfl hm) (ax_cons (x_call (ax_cons (x_var rfl ha) (ax_cons (x_var rfl hb) ax_nil)) ⟨a, b, rfl, rfl⟩) ax_nil))) ⟨k, m, Na02.minus a b, hk, (minus_bd ba bb).mono (by decide), bm.mono (by decide), rfl, rfl⟩) fun v H5 e5 h => q v H5 e5 h
theorem bd_rest {k : Nat} {a m : NZ} (hm : m ≠ Na02.zero) (bm : Bd 100 m) : Na02.norm k (Na02.rest k a m) ≤ 30000 := by
  have h1 := rest_norm (k := k) (a := a) hm
  have h2 := norm_bd (k := k) bm
  omega
/-! power -/
abbrev st_power : Stmt := topS 44
theorem sc_power : FnScope ["kind", "a", "m", "e", "h"] ["kind", "a", "m", "e"] (defScope st_power) := ⟨rfl, rfl, rfl, by decide +kernel, rfl, by decide +kernel, by decide +kernel⟩
def D_power : Nat → List Dt → Dt → Prop
  | 0, _, _ => False
  | n + 1, l, r => ∃ (k : Nat) (a m : NZ) (e : Nat), k ≤ 1 ∧ Na02.norm k a ≤ 30000 ∧ Bd 100 m ∧ m ≠ Na02.zero ∧ e < 2 ^ n ∧ l = [.v (.int k), .z a, .z m, .v (.int (e : Int))] ∧ r = .z (Na02.pow k m n e a)
theorem ok_power0 {po : Addr} (F : Fun K "power" "power" st_power f fd) (g_ONE : GlobV mg "ONE" (.ref po)) (ko : KT K po (zt Na02.one)) (d_rest : Def P w K mg base "rest" 3 ["kind", "a", "b"] (spOf K D_rest)) (d_times : Def P w K mg base "times" 1 ["kind", "a", "b"] (spOf K D_times))
    (n : Nat) (d_power : Def P w K mg base "power" (3 + n) ["kind", "a", "m", "e"] (spOf K (D_power n))) : FnOk P w K mg base CX0 (3 + n + 1) f fd ["kind", "a", "m", "e"] (spOf K (D_power (n + 1))) := by
  refine ok_of F sc_power (fun l r h => by obtain ⟨k, a, m, e, _, _, _, _, _, rfl, _⟩ := h; rfl) (fun cdv A outer s H vs Q E l r hr hd hA q => ?_)
  obtain ⟨k, a, m, e, hk, na, bm, nm, he, rfl, rfl⟩ := hd
  obtain ⟨_, va, vm, _, rfl, rfl, ha, hm, rfl⟩ := all2_4 hA; clear hA
  have ba : Bd 200 a := bd_norm (k := k) (by decide) (by omega)
  have baa : Bd 1073741824 (Na02.times k a a) := (times_bd (k := k) ba ba).mono (by decide)
  have em : (e : Int).fmod 2 = ((e % 2 : Nat) : Int) := by rw [Int.fmod_eq_emod_of_nonneg _ (by decide)]; omega
  have ed : (e : Int).fdiv 2 = ((e / 2 : Nat) : Int) := by rw [Int.fdiv_eq_ediv_of_nonneg _ (by decide)]; omega
  have hone : ∀ H, IsA K H (.z Na02.one) (.ref po) := fun H => ⟨po, rfl, ko.sq H⟩
  refine ⟨_, (pss_cons (ps_if (pt_cmpR op_eq (pv 3) pe_int (nomark _)) (pss_one (ps_ret (pe_cd d_rest (hr.mono (by omega)) (by rfl) pass0 (pa_cons (pv 0) (pa_cons (pe_gv g_ONE (by rfl)) (pa_cons (pv 2) pa_nil)))))) pss_nil)
      (pss_cons (ps_set (i := 4) sc_power.nd rfl (Or.inl rfl) (pe_cd d_power (hr.mono (by omega)) (by rfl) pass0 (pa_cons (pv 0) (pa_cons (pe_cd d_rest (hr.mono (by omega)) (by rfl) pass0 (pa_cons (pv 0) (pa_cons (pe_cd d_times (hr.mono (by omega)) (by rfl) pass0 (pa_cons (pv 0) (pa_cons (pv 1) (pa_cons (pv 1) pa_nil)))) (pa_cons (pv 2) pa_nil)))) (pa_cons (pv 2) (pa_cons (pe_op op_fdivN (pv 3) pe_int) pa_nil))))))
      (pss_cons (ps_if (pt_cmpR op_eq (pe_op op_modN (pv 3) pe_int) pe_int (nomark _)) (pss_one (ps_ret (pv 4))) pss_nil)
      (pss_one (ps_ret (pe_cd d_rest (hr.mono (by omega)) (by rfl) pass0 (pa_cons (pv 0) (pa_cons (pe_cd d_times (hr.mono (by omega)) (by rfl) pass0 (pa_cons (pv 0) (pa_cons (pv 1) (pa_cons (pv 4) pa_nil)))) (pa_cons (pv 2) pa_nil))))))))), ?_⟩
  refine' q_if (et_test (ev_eqi (ev_var rfl) ev_c)) (fun c H3 e3 => ?_) (fun c H3 e3 => ?_)
  · have c2 := of_decide_eq_true c
    have c3 : e = 0 := by omega
    subst c3
    replace hm := IsA.ex e3 hm
    refine' s_retX (K := K) (x_call (ax_cons (x_s rfl) (ax_cons (x_c (hone H3)) (ax_cons (x_var rfl hm) ax_nil))) ⟨k, Na02.one, m, hk, ⟨⟨by decide, by decide⟩, by decide, by decide⟩, bm.mono (by decide), nm, rfl, rfl⟩) fun v H5 e5 h => q v H5 (e3.trans e5) (is_z h (by cases n <;> rfl))
  · have c2 := of_decide_eq_false c
    have c3 : ¬ e = 0 := by omega
    cases n with
    | zero => exact absurd he (by rw [Nat.pow_zero]; omega)
    | succ j =>
      have e2 : e / 2 < 2 ^ j := by rw [Nat.pow_succ] at he; omega
      replace ha := IsA.ex e3 ha
      replace hm := IsA.ex e3 hm
      dsimp only [tNext]
      refine' q_asgX (K := K) (x_call (ax_cons (x_s rfl) (ax_cons (x_call (ax_cons (x_s rfl) (ax_cons (x_call (ax_cons (x_s rfl) (ax_cons (x_var rfl ha) (ax_cons (x_var rfl ha) ax_nil))) ⟨k, a, a, hk, ba.mono (by decide), ba.mono (by decide), rfl, rfl⟩) (ax_cons (x_var rfl hm) ax_nil))) ⟨k, Na02.times k a a, m, hk, baa, bm.mono (by decide), nm, rfl, rfl⟩)
        (ax_cons (x_var rfl hm) (ax_cons (ev_x (ev_v (ev_op (ev_var rfl) ev_c (rv_I (C := CDivN) (cdivn (by decide) (by decide)))) (congrArg V.int ed))) ax_nil)))) ⟨k, _, m, e / 2, hk, bd_rest nm bm, bm, nm, e2, rfl, rfl⟩) fun vh H4 e4 hh => ?_
      replace ha := IsA.ex e4 ha
      replace hm := IsA.ex e4 hm
      have epow : Na02.pow k m (j + 1) e a = if e % 2 = 1 then Na02.rest k (Na02.times k a (Na02.pow k m j (e / 2) (Na02.rest k (Na02.times k a a) m))) m else Na02.pow k m j (e / 2) (Na02.rest k (Na02.times k a a) m) := by
        show (if e = 0 then _ else _) = _
        rw [if_neg c3]
      have nh : Na02.norm k (Na02.pow k m j (e / 2) (Na02.rest k (Na02.times k a a) m)) ≤ 30000 := by
        have h1 := pow_norm (k := k) nm j (e / 2) (Na02.rest k (Na02.times k a a) m)
        have h2 := norm_bd (k := k) bm
        omega
      have bh : Bd 200 (Na02.pow k m j (e / 2) (Na02.rest k (Na02.times k a a) m)) := bd_norm (k := k) (by decide) (by omega)
      have bah : Bd 1073741824 (Na02.times k a (Na02.pow k m j (e / 2) (Na02.rest k (Na02.times k a a) m))) := (times_bd (k := k) ba bh).mono (by decide)
      refine' q_if (et_test (ev_eqi (ev_op (ev_var rfl) ev_c (rv_I (C := fun _ j => j ≠ 0) (by decide))) ev_c)) (fun c4 H5 e5 => ?_) (fun c4 H5 e5 => ?_)
      · have c5 := of_decide_eq_true c4
        rw [em] at c5
        replace hh := IsA.ex e5 hh
        refine' s_retX (K := K) (x_var rfl hh) fun v H6 e6 h => q v H6 ((e3.trans e4).trans (e5.trans e6)) (is_z h ?_)
        rw [epow, if_neg (by omega)]
      · have c5 := of_decide_eq_false c4
        rw [em] at c5
        replace ha := IsA.ex e5 ha
        replace hh := IsA.ex e5 hh
        replace hm := IsA.ex e5 hm
        dsimp only [tNext]
        refine' s_retX (K := K) (x_call (ax_cons (x_s rfl) (ax_cons (x_call (ax_cons (x_s rfl) (ax_cons (x_var rfl ha) (ax_cons (x_var rfl hh) ax_nil))) ⟨k, a, _, hk, ba.mono (by decide), bh.mono (by decide), rfl, rfl⟩) (ax_cons (x_var rfl hm) ax_nil))) ⟨k, _, m, hk, bah, bm.mono (by decide), nm, rfl, rfl⟩) fun v H6 e6 h => q v H6 ((e3.trans e4).trans (e5.trans e6)) (is_z h ?_)
        rw [epow, if_pos (by omega)]
theorem ok_power {po : Addr} (F : Fun K "power" "power" st_power f fd) (hm : mg "power" = some (.ref f)) (hb : Binds K fd ["kind", "a", "m", "e"] []) (g_ONE : GlobV mg "ONE" (.ref po)) (ko : KT K po (zt Na02.one)) (d_rest : Def P w K mg base "rest" 3 ["kind", "a", "b"] (spOf K D_rest)) (d_times : Def P w K mg base "times" 1 ["kind", "a", "b"] (spOf K D_times)) :
    ∀ n : Nat, FnOk P w K mg base CX0 (3 + n) f fd ["kind", "a", "m", "e"] (spOf K (D_power n))
  | 0 => ⟨fun _ _ _ _ h => by obtain ⟨_, _, h, _⟩ := h; exact h.elim, fun _ _ _ _ _ _ _ _ _ _ _ _ _ h => by obtain ⟨_, _, h, _⟩ := h; exact h.elim⟩
  | n + 1 => ok_power0 F g_ONE ko d_rest d_times n (def_of F hm hb (ok_power F hm hb g_ONE ko d_rest d_times n))
end
end PN
end
section
set_option Elab.async false
set_option maxRecDepth 100000
set_option maxHeartbeats 2000000
set_option linter.all false
namespace PN
open PySem PySem.Spec PyProof.Rows L2 Evl
/-! lists that grow -/
section
variable {K : PySem.W.Frag} {H H' : Hp} {l : Addr} {xs ys : List V}
theorem rd_upd {p : Addr} {us : List V} {o : HO} (h : Rd H p (.tup us)) (hl : H l = some (.lst xs)) : Rd (upd H l o) p (.tup us) := by
  rcases h with h | ⟨q, h⟩
  · have : p ≠ l := by
      rintro rfl
      rw [h] at hl
      cases hl
    exact Or.inl ((upd_ne this).trans h)
  · have : p ≠ l := by
      rintro rfl
      rw [h] at hl
      cases hl
    exact Or.inr ⟨q, (upd_ne this).trans h⟩
theorem TupAt.upd {us : List V} {x : V} {o : HO} (h : TupAt K H us x) (hl : H l = some (.lst xs)) : TupAt K (upd H l o) us x := by
  obtain ⟨p, e, h⟩ := h
  refine ⟨p, e, ?_⟩
  rcases h with h | h
  · exact Or.inl (rd_upd h hl)
  · exact Or.inr h
/-- the comprehension that makes numbers -/
theorem lc_nums {a : Addr} {ys : List V} {j : Nat} {te : TE} {vs : List Nat} {σ : L2.St} {H1 : Hp} {Q : VK} (L : List NZ) (hx : H1 a = some (.lst ys)) (hl : L.length = ys.length) (hz : ys.length ≤ 40000)
    (hw : ∀ x, wipe ((wipe σ vs).set j (some x)) vs = wipe σ vs) (he : ∀ (i : Nat) (x : V) (z : NZ), ys[i]? = some x → L[i]? = some z → EvX K te ((wipe σ vs).set j (some x)) H1 (.z z)) (q : ∀ v H2, Ex H1 H2 → IsA K H2 (.nums L) v → Q v H2) (Dl : Addr) (hD : H1 Dl = none) :
    ∃ W : Nat → Nat → Hp → Prop, (∃ m, W 0 m (upd H1 Dl (.lst []))) ∧ ∀ i m H, W i m H →
      ((Itl K a).stop i H ∧ Q (.ref Dl) H) ∨ ((Itl K a).go i H ∧ ∃ Nx : Hp → Prop, (∀ H', Nx H' → ∃ m', m' < m ∧ W (i + 1) m' H') ∧ ∀ x H', (Itl K a).yld i H x H' → gName j x (wipe σ vs) H' fun σ2 H2 => wipe σ2 vs = wipe σ vs ∧ tYes σ2 H2 fun b H3 =>
        if b = true then te σ2 H3 fun y H4 => ∃ acc, H4 Dl = some (.lst acc) ∧ acc.length < sizeLine ∧ Nx (upd H4 Dl (.lst (acc ++ [y]))) else Nx H3) := by
  refine lc_list (xs := ys) (fun i H' => Ex H1 H' ∧ ∃ us, H' Dl = some (.lst us) ∧ All2 (fun z u => TupAt K H' (zt z) u) (L.take i) us) ⟨Ex.new hD, [], upd_same, trivial⟩ (fun i H' _ p => sq_of (p.1 a _ hx)) ?_ ?_
  · rintro i x H' hi ⟨e, us, hu, ha⟩
    have hlt := (List.getElem?_eq_some_iff.mp hi).1
    have hz1 : L[i]? = some (L[i]'(by omega)) := List.getElem?_eq_getElem (by omega)
    refine ⟨hw x, ?_⟩
    show te _ H' _
    refine he i x _ hi hz1 H' e _ fun v H2 e2 hv => ⟨us, e2 _ _ hu, ?_, Ex.mut (e.trans e2) hD, us ++ [v], upd_same, ?_⟩
    · rw [ha.len, List.length_take]
      exact sz_lt (by omega)
    · rw [List.take_add_one, hz1]
      exact All2.snoc (R := fun z u => TupAt K _ (zt z) u) (TupAt.upd hv (e2 _ _ hu)) (ha.imp fun _ _ t => TupAt.upd (t.ex e2) (e2 _ _ hu))
  · rintro H' ⟨e, us, hu, ha⟩
    refine q _ H' e ⟨Dl, us, rfl, hu, ?_⟩
    rw [List.take_of_length_le (by omega)] at ha
    exact ha
end
/-! the triples in the heap -/
def keyOf (H : Hp) : V → T3
  | .ref t => match H t with
    | some (.tup [.int a, .int b, .int c]) => (a, b, c)
    | _ => (0, 0, 0)
  | _ => (0, 0, 0)
def trip (k : Nat) (z : NZ) : T3 := (Na02.norm k z, z.x, z.y)
def TripAt (H : Hp) (t : T3) (x : V) : Prop := ∃ p, x = .ref p ∧ H p = some (.tup [.int t.1, .int t.2.1, .int t.2.2])
theorem TripAt.key {H : Hp} {t : T3} {x : V} (h : TripAt H t x) : keyOf H x = t := by
  obtain ⟨p, rfl, e⟩ := h
  show (match H p with
    | some (.tup [.int a, .int b, .int c]) => (a, b, c)
    | _ => (0, 0, 0)) = t
  rw [e]
theorem TripAt.ex {H H' : Hp} {t : T3} {x : V} (e : Ex H H') (h : TripAt H t x) : TripAt H' t x := by
  obtain ⟨p, q, h⟩ := h
  exact ⟨p, q, e _ _ h⟩
theorem TripAt.upd {H : Hp} {t : T3} {x : V} {l : Addr} {xs : List V} {o : HO} (h : TripAt H t x) (hl : H l = some (.lst xs)) : TripAt (upd H l o) t x := by
  obtain ⟨p, q, h⟩ := h
  have : p ≠ l := by
    rintro rfl
    rw [h] at hl
    cases hl
  exact ⟨p, q, (upd_ne this).trans h⟩
theorem all2_mem {α β : Type} {R : α → β → Prop} : ∀ {l : List α} {m : List β}, All2 R l m → ∀ b ∈ m, ∃ a ∈ l, R a b
  | [], [], _, b, h => absurd h List.not_mem_nil
  | a :: l, c :: m, ⟨h1, h2⟩, b, h => by
    rcases List.mem_cons.mp h with e | h
    · subst e
      exact ⟨a, List.mem_cons_self, h1⟩
    · obtain ⟨x, hx, r⟩ := all2_mem h2 b h
      exact ⟨x, List.mem_cons_of_mem _ hx, r⟩
  | [], _ :: _, q, _, _ => q.elim
  | _ :: _, [], q, _, _ => q.elim
theorem all2_map {α β : Type} {R : α → β → Prop} {f : β → α} (hf : ∀ a b, R a b → f b = a) : ∀ {l : List α} {m : List β}, All2 R l m → m.map f = l
  | [], [], _ => rfl
  | a :: l, c :: m, ⟨h1, h2⟩ => by rw [List.map_cons, hf a c h1, all2_map hf h2]
  | [], _ :: _, q => q.elim
  | _ :: _, [], q => q.elim
theorem q_forR2 {σ : L2.St} {H : Hp} {D : Ends} {tu tz : TS} {ta : TA} {j : Nat} {lo n : Int} (h : EvA ta σ H [.int lo, .int n]) (hn : 0 ≤ lo ∧ lo ≤ 100000 ∧ -100000 ≤ n ∧ n ≤ 100000) (Pv : Nat → L2.St → Hp → Prop) (h0 : ∀ H1, Ex H H1 → Pv 0 σ H1)
    (hs : ∀ (i : Nat) σ' H', lo + (i : Int) < n → Pv i σ' H' → tu { D with nx := Pv (i + 1), ct := Pv (i + 1), bk := tz D } (σ'.set j (some (.int (lo + (i : Int))))) H') (hd : ∀ σ' H', Pv (n - lo).toNat σ' H' → tz D σ' H') : tSeq (tFor (iRng2 ta) (gName j) tu) tz D σ H :=
  s_forR2 (D := { D with nx := tz D }) h hn Pv h0 hs hd
theorem et_yes {σ : L2.St} {H : Hp} : EvT tYes σ H true := fun H1 e Q q => q H1 (Ex.refl H1)
section
variable {P : Program} {w : World} {K : PySem.W.Frag} {mg : Str → Option Value} {base : Heap} {f : Addr} {fd : FuncData} {pz pt t0 t1 : Addr}
theorem ev_ix3 {σ : L2.St} {H : Hp} {i : Nat} {x : V} {t : T3} (h : σ[i]? = some (some x)) (ht : TripAt H t x) : Ev (tOp (rIxT K) (tVar i) (tC (.int 1))) σ H (.int t.2.1) ∧ Ev (tOp (rIxT K) (tVar i) (tC (.int 2))) σ H (.int t.2.2) := by
  obtain ⟨p, rfl, ht⟩ := ht
  exact ⟨ev_op (ev_var h) ev_c (rv_ixT (st_of ht) rfl), ev_op (ev_var h) ev_c (rv_ixT (st_of ht) rfl)⟩
theorem eu_row {σ : L2.St} {H : Hp} {ta tb tc : TE} {x y n : Int} (h1 : Ev ta σ H (.int x)) (h2 : Ev tb σ H (.int y)) (h3 : Ev tc σ H (.int n)) : EvU (tTup (tCons ta (tCons tb (tCons tc tNil)))) σ H [.int x, .int y, .int n] :=
  eu_tup (ea_cons h1 (ea_cons h2 (ea_cons h3 ea_nil))) (by show 3 ≤ 100000; decide)
/-! first_part -/
abbrev st_first_part : Stmt := topS 46
theorem sc_first_part : FnScope ["kind", "most", "side", "found", "x", "y"] ["kind", "most"] (defScope st_first_part) := ⟨rfl, rfl, rfl, by decide +kernel, rfl, by decide +kernel, by decide +kernel⟩
def D_fp (l : List Dt) (r : Dt) : Prop := ∃ (k n : Nat), k ≤ 1 ∧ n ≤ 1000 ∧ l = [.v (.int k), .v (.int (n : Int))] ∧ r = .nums (fpart k n)
theorem ok_fp (F : Fun K "first_part" "first_part" st_first_part f fd) (n_range : mg "range" = none) (d_size : Def P w K mg base "size" 1 ["kind", "a"] (spOf K D_size))
    (d_in_first_part : Def P w K mg base "in_first_part" 1 ["kind", "a"] (spOf K D_first)) : FnOk P w K mg base CX0 2 f fd ["kind", "most"] (spOf K D_fp) := by
  refine ok_of F sc_first_part (fun l r h => by obtain ⟨k, a, _, _, rfl, _⟩ := h; rfl) (fun cdv A outer s H vs Q E l r hr hd hA q => ?_)
  obtain ⟨k, m, hk, hm, rfl, rfl⟩ := hd
  obtain ⟨_, _, rfl, rfl, rfl⟩ := all2_2 hA; clear hA
  refine ⟨_, (pss_cons (ps_set (i := 2) sc_first_part.nd rfl (Or.inl rfl) pe_int)
      (pss_cons (ps_while PassesOwn.never (pt_cmpR op_le (pe_op op_mul (pe_op op_mul pe_int (pv 2)) (pv 2)) (pe_op op_mul pe_int (pv 1)) (nomark _)) (pss_one (ps_set (i := 2) sc_first_part.nd rfl (Or.inl rfl) (pe_op op_add (pv 2) pe_int))))
      (pss_cons (ps_set (i := 3) sc_first_part.nd rfl (Or.inl rfl) (pe_lst pa_nil))
      (pss_cons (ps_for PassesOwn.never rfl (pi_range2 (by rfl) n_range (pa_cons pe_int (pa_cons (pv 2) pa_nil))) (pg_name (i := 4) sc_first_part.nd rfl (Or.inl rfl)) (pss_one (ps_for PassesOwn.never rfl (pi_range1 (by rfl) n_range (pa_cons (pv 2) pa_nil)) (pg_name (i := 5) sc_first_part.nd rfl (Or.inl rfl)) (pss_one (ps_if (PW.pt (pw_and (pt_val (pe_cd d_in_first_part (hr.mono (by decide)) (by rfl) pass0 (pa_cons (pv 0) (pa_cons (pe_tup (pa_cons (pv 4) (pa_cons (pv 5) pa_nil))) pa_nil)))) (pw_and1 (pt_cmpR op_le (pe_cd d_size (hr.mono (by decide)) (by rfl) pass0 (pa_cons (pv 0) (pa_cons (pe_tup (pa_cons (pv 4) (pa_cons (pv 5) pa_nil))) pa_nil))) (pv 1) (nomark _))))) (pss_one (ps_expr (pe_bm PySem.F.plainAttrs_list PySem.F.slot_list_append PySem.F.type_list_append mt_append (pv 3) (pa_cons (pe_tup (pa_cons (pv 4) (pa_cons (pv 5) pa_nil))) pa_nil)))) pss_nil)))))
      (pss_one (ps_ret (pv 3))))))), ?_⟩
  refine' q_asg ev_c fun H1 e1 => ?_
  refine' q_while (fun m' σ' H' => ∃ s : Int, σ' = [some (.int k), some (.int m), some (.int s), none, none, none] ∧ Ex H H' ∧ 1 ≤ s ∧ s ≤ 40 ∧ m' = (100 - s).toNat) _ ⟨1, rfl, e1, by omega, by omega, rfl⟩ ?_
  rintro m' σ' H' ⟨s, rfl, e2, s1, s2, rfl⟩
  have hs0 : 0 ≤ s * s := sqn s
  refine' ⟨_, et_test (ev_op (ev_op (ev_op ev_c (ev_var rfl) (rv_I (C := CMul) (Or.inl ⟨by decide, by decide⟩))) (ev_var rfl) (rv_I (C := CMul) (Or.inr ⟨by omega, by omega⟩))) (ev_op ev_c (ev_var rfl) (rv_I (C := CMul) (Or.inl ⟨by decide, by decide⟩))) rv_I0), fun c H3 e3 => ?_, fun c H3 e3 => ?_⟩
  · have c2 : 3 * s * s ≤ 4 * (m : Int) := of_decide_eq_true c
    rw [Int.mul_assoc] at c2
    refine ⟨fun σ2 H2 => ∃ m', m' < (100 - s).toNat ∧ ∃ s : Int, σ2 = [some (.int k), some (.int m), some (.int s), none, none, none] ∧ Ex H H2 ∧ 1 ≤ s ∧ s ≤ 40 ∧ m' = (100 - s).toNat, fun _ _ h => h, ?_⟩
    refine' s_asg (ev_op (ev_var rfl) ev_c rv_I0) fun H4 e4 => ?_
    have hs : s ≤ 37 := by
      rcases Int.lt_or_le 37 s with h | h
      · have : (38 : Int) * 38 ≤ s * s := Int.mul_le_mul (by omega) (by omega) (by decide) (by omega)
        omega
      · exact h
    exact ⟨_, by omega, s + 1, rfl, e2.trans (e3.trans e4), by omega, by omega, rfl⟩
  · have c2 : 4 * (m : Int) < 3 * (s * s) := by
      have : ¬ 3 * s * s ≤ 4 * (m : Int) := of_decide_eq_false c
      rw [Int.mul_assoc] at this
      omega
    clear c
    refine' q_asgL (el_lst ea_nil (by decide)) fun p H4 hp e4 hl => ?_
    have e5 : Ex H H4 := (e2.trans e3).trans e4
    have hpH : H p = none := fresh_back (e2.trans e3) hp
    refine' q_forR2 (ea_cons ev_c (ea_cons (ev_var rfl) ea_nil)) ⟨by decide, by decide, by omega, by omega⟩ (fun i σ' H' => ∃ vx vy us, σ' = [some (.int k), some (.int m), some (.int s), some (.ref p), vx, vy] ∧ Ex H H' ∧ H' p = some (.lst us) ∧ All2 (fun z u => TupAt K H' (zt z) u) (outF k m s.toNat i) us)
      (fun H5 e6 => ⟨none, none, [], rfl, e5.trans e6, e6 _ _ hl, trivial⟩) ?_ ?_
    · rintro i σ' H5 hi ⟨vx, vy, us, rfl, e6, hu, ha⟩
      refine' s_forR1 (ea_cons (ev_var rfl) ea_nil) ⟨by omega, by omega⟩ (fun j σ' H' => ∃ vy us, σ' = [some (.int k), some (.int m), some (.int s), some (.ref p), some (.int (1 + (i : Int))), vy] ∧ Ex H H' ∧ H' p = some (.lst us) ∧ All2 (fun z u => TupAt K H' (zt z) u) (outF k m s.toNat i ++ rowF k m i j) us)
        (fun H6 e7 => ⟨vy, us, rfl, e6.trans e7, e7 _ _ hu, ?_⟩) ?_ ?_
      · rw [show rowF k m i 0 = [] from rfl, List.append_nil]
        exact ha.imp fun _ _ t => t.ex e7
      · rintro j σ' H6 hj ⟨vy, us, rfl, e7, hu, ha⟩
        have hlen : us.length < 100000 := by
          rw [ha.len, List.length_append]
          have l1 := outF_len k m s.toNat i
          have l2 := rowF_len k m i j
          have l3 : i * s.toNat ≤ 40 * 40 := Nat.mul_le_mul (by omega) (by omega)
          omega
        have bz : Bd 1152921504606846976 (⟨1 + (i : Int), (j : Int)⟩ : NZ) := ⟨⟨by simp only; omega, by simp only; omega⟩, by simp only; omega, by simp only; omega⟩
        refine' s_if (b := cond k m ⟨1 + (i : Int), (j : Int)⟩) (et_and (et_B (x_call (K := K) (ax_cons (x_s rfl) (ax_cons (x_tup2 (ev_var rfl) (ev_var rfl)) ax_nil)) ⟨k, ⟨1 + (i : Int), (j : Int)⟩, hk, rfl, rfl⟩).ev) fun _ =>
          et_test (ev_op (x_call (K := K) (ax_cons (x_s rfl) (ax_cons (x_tup2 (ev_var rfl) (ev_var rfl)) ax_nil)) ⟨k, ⟨1 + (i : Int), (j : Int)⟩, hk, bz, rfl, rfl⟩).ev (ev_var rfl) rv_I0)) (fun c H8 e9 => ?_) (fun c H8 e9 => ?_)
        · refine' s_appU (e9 _ _ hu) (ev_var rfl) (eu_tup (ea_cons (ev_var rfl) (ea_cons (ev_var rfl) ea_nil)) (by show 2 ≤ 100000; decide)) hlen fun pp H9 hpp e11 ht => ?_
          refine ⟨_, us ++ [.ref pp], rfl, Ex.mut (e7.trans (e9.trans e11)) hpH, upd_same, ?_⟩
          rw [rowF_yes c, ← List.append_assoc]
          have hu9 := e11 _ _ (e9 _ _ hu)
          exact All2.snoc (R := fun z u => TupAt K _ (zt z) u) (TupAt.upd ⟨pp, rfl, st_of ht⟩ hu9) (ha.imp fun _ _ t => TupAt.upd ((t.ex e9).ex e11) hu9)
        · dsimp only [tNext]
          refine ⟨_, us, rfl, e7.trans e9, e9 _ _ hu, ?_⟩
          rw [rowF_no c]
          exact ha.imp fun _ _ t => t.ex e9
      · rintro σ' H6 ⟨vy, us, rfl, e7, hu, ha⟩
        exact ⟨_, vy, us, rfl, e7, hu, by rw [outF_succ]; exact ha⟩
    · rintro σ' H5 ⟨vx, vy, us, rfl, e6, hu, ha⟩
      rw [outF_fpart s1 c2] at ha
      have hv : IsA K H5 (.nums (fpart k m)) (.ref p) := ⟨p, us, rfl, hu, ha⟩
      refine' s_retX (K := K) (x_var rfl hv) fun v H7 e7 h => q v H7 (e6.trans e7) h
/-- some of a list of numbers, each put as R tells -/
theorem lc_filt {σ : L2.St} {H : Hp} {tl te : TE} {t : TT} {j : Nat} {vs : List Nat} {L : List NZ} (f : NZ → Bool) (R : Hp → NZ → V → Prop) (h : EvX K tl σ H (.nums L)) (hz : L.length ≤ 40000) (hRe : ∀ {H H' : Hp} {z : NZ} {x : V}, Ex H H' → R H z x → R H' z x)
    (hRu : ∀ {H : Hp} {l : Addr} {xs : List V} {o : HO} {z : NZ} {x : V}, H l = some (.lst xs) → R H z x → R (upd H l o) z x) (hw : ∀ x, wipe ((wipe σ vs).set j (some x)) vs = wipe σ vs)
    (ht : ∀ (x : V) (z : NZ) (H1 : Hp), Ex H H1 → z ∈ L → IsA K H1 (.z z) x → EvT t ((wipe σ vs).set j (some x)) H1 (f z))
    (he : ∀ (x : V) (z : NZ) (H1 : Hp), Ex H H1 → z ∈ L → IsA K H1 (.z z) x → ∀ Q : VK, (∀ v H2, Ex H1 H2 → R H2 z v → Q v H2) → te ((wipe σ vs).set j (some x)) H1 Q) :
    ∀ H1, Ex H H1 → ∀ Q : VK, (∀ p us H2, H1 p = none → Ex H1 H2 → H2 p = some (.lst us) → All2 (R H2) (L.filter f) us → Q (.ref p) H2) → tLc (iList K tl) (gName j) t te vs σ H1 Q := fun H1 e Q q =>
  h H1 e _ fun v H2 e2 ⟨a, ys, ev, ha, hall⟩ => ⟨a, ev, ⟨ys, sq_of ha⟩, fun Dl hD => by
    refine lc_list (xs := ys) (fun i H' => Ex H2 H' ∧ ∃ us, H' Dl = some (.lst us) ∧ All2 (R H') ((L.take i).filter f) us) ⟨Ex.new hD, [], upd_same, trivial⟩ (fun i H' _ p => sq_of (p.1 a _ ha)) ?_ ?_
    · rintro i x H' hi ⟨e3, us, hu, hA⟩
      obtain ⟨z, hz1, hzx⟩ := hall.at hi
      have hm := List.mem_of_getElem? hz1
      have hzx' : IsA K H' (.z z) x := TupAt.ex e3 hzx
      have tk : L.take (i + 1) = L.take i ++ [z] := by rw [List.take_add_one, hz1]; rfl
      have hlt := (List.getElem?_eq_some_iff.mp hz1).1
      refine ⟨hw x, ?_⟩
      refine ht x z H' ((e.trans e2).trans e3) hm hzx' H' (Ex.refl _) _ fun H3 e4 => ?_
      cases hf : f z with
      | true =>
        show te _ H3 _
        refine he x z H3 (((e.trans e2).trans e3).trans e4) hm (hzx'.ex e4) _ fun v H4 e5 hv => ⟨us, (e4.trans e5) _ _ hu, ?_, Ex.mut (e3.trans (e4.trans e5)) hD, us ++ [v], upd_same, ?_⟩
        · rw [hA.len]
          have := List.length_filter_le f (L.take i)
          rw [List.length_take] at this
          exact sz_lt (by omega)
        · rw [tk, List.filter_append, List.filter_cons, if_pos hf]
          have hu4 := (e4.trans e5) _ _ hu
          exact All2.snoc (R := R _) (hRu hu4 hv) (hA.imp fun _ _ r => hRu hu4 (hRe (e4.trans e5) r))
      | false =>
        show Ex H2 H3 ∧ _
        refine ⟨e3.trans e4, us, e4 _ _ hu, ?_⟩
        rw [tk, List.filter_append, List.filter_cons, if_neg (by rw [hf]; decide)]
        show All2 _ (_ ++ []) _
        rw [List.append_nil]
        exact hA.imp fun _ _ r => hRe e4 r
    · rintro H' ⟨e3, us, hu, hA⟩
      rw [hall.len, List.take_length] at hA
      exact q Dl us H' (fresh_back e2 hD) (e2.trans e3) hu hA⟩
theorem q_asgF {σ : L2.St} {H : Hp} {te : TE} {tz : TS} {D : Ends} {i : Nat} {R : Hp → NZ → V → Prop} {L : List NZ} (h : ∀ H1, Ex H H1 → ∀ Q : VK, (∀ p us H2, H1 p = none → Ex H1 H2 → H2 p = some (.lst us) → All2 (R H2) L us → Q (.ref p) H2) → te σ H1 Q)
    (k : ∀ p us H2, H p = none → Ex H H2 → H2 p = some (.lst us) → All2 (R H2) L us → tz D (σ.set i (some (.ref p))) H2) : tSeq (tAsg te (gName i)) tz D σ H := h H (Ex.refl H) _ k
/-! small_divisors -/
abbrev st_small_divisors : Stmt := topS 47
theorem sc_small_divisors : FnScope ["kind", "most", "root", "ranked", "a", "row"] ["kind", "most"] (defScope st_small_divisors) := ⟨rfl, rfl, rfl, by decide +kernel, rfl, by decide +kernel, by decide +kernel⟩
def D_sd (l : List Dt) (r : Dt) : Prop := ∃ (k m : Nat), k ≤ 1 ∧ m < 160000 ∧ l = [.v (.int k), .v (.int (m : Int))] ∧ r = .nums (cands k m)
theorem ok_sd (F : Fun K "small_divisors" "small_divisors" st_small_divisors f fd) (n_sorted : mg "sorted" = none) (d_size : Def P w K mg base "size" 1 ["kind", "a"] (spOf K D_size))
    (d_first_part : Def P w K mg base "first_part" 2 ["kind", "most"] (spOf K D_fp)) : FnOk P w K mg base CX0 3 f fd ["kind", "most"] (spOf K D_sd) := by
  refine ok_of F sc_small_divisors (fun l r h => by obtain ⟨k, a, _, _, rfl, _⟩ := h; rfl) (fun cdv A outer s H vs Q E l r hr hd hA q => ?_)
  obtain ⟨k, m, hk, hm, rfl, rfl⟩ := hd
  obtain ⟨_, _, rfl, rfl, rfl⟩ := all2_2 hA; clear hA
  refine ⟨_, (pss_cons (ps_set (i := 2) sc_small_divisors.nd rfl (Or.inl rfl) pe_int)
      (pss_cons (ps_while PassesOwn.never (pt_cmpR op_le (pe_op op_mul (pe_op op_add (pv 2) pe_int) (pe_op op_add (pv 2) pe_int)) (pv 1) (nomark _)) (pss_one (ps_set (i := 2) sc_small_divisors.nd rfl (Or.inl rfl) (pe_op op_add (pv 2) pe_int))))
      (pss_cons (ps_setLc (i := 3) (own := [("a", 4)]) (g := gName 4) (tt := (tTest (tOp (rI0 fun i j => .bl (decide (j < i))) (tCall (spOf K D_size) [] E0 (tCons (tVar 0) (tCons (tVar 4) tNil))) (tC (.int 1))))) (te := (tTup (tCons (tCall (spOf K D_size) [] E0 (tCons (tVar 0) (tCons (tVar 4) tNil))) (tCons (tOp (rIxT K) (tVar 4) (tC (.int 0))) (tCons (tOp (rIxT K) (tVar 4) (tC (.int 1))) tNil))))) (by rfl) sc_small_divisors.nd rfl rfl (sw_true rfl rfl rfl (by decide +kernel)) (pi_list (pe_cd d_first_part (hr.mono (by decide)) (by rfl) pass0 (pa_cons (pv 0) (pa_cons (pv 2) pa_nil)))) (blkOk_by (own := [("a", 4)]) (N := ["kind", "most", "root", "ranked", "a", "row"]) (sc := defScope st_small_divisors) (by decide +kernel)) (fun _ _ _ _ _ => pg_name (i := 4) sc_small_divisors.nd rfl (Or.inl rfl)) (fun _ _ _ _ _ => (pts_one (pt_cmpR op_gt (pe_cd d_size (hr.mono (by decide)) (by rfl) pass0 (pa_cons (pv 0) (pa_cons (pv 4) pa_nil))) pe_int (nomark _)))) (fun _ _ _ _ _ => (pe_tup (pa_cons (pe_cd d_size (hr.mono (by decide)) (by rfl) pass0 (pa_cons (pv 0) (pa_cons (pv 4) pa_nil))) (pa_cons (pe_ix ix_tup (pv 4) pe_int (fun _ _ => rfl)) (pa_cons (pe_ix ix_tup (pv 4) pe_int (fun _ _ => rfl)) pa_nil))))))
      (pss_one (ps_ret (pe_lc (own := [("row", 5)]) (g := gName 5) (tt := tYes) (te := (tTup (tCons (tOp (rIxT K) (tVar 5) (tC (.int 1))) (tCons (tOp (rIxT K) (tVar 5) (tC (.int 2))) tNil)))) rfl sc_small_divisors.nd (pi_list (pe_callB cr_sort3 (by rfl) n_sorted (by decide +kernel) (pa_cons (pv 3) pa_nil))) (blkOk_by (own := [("row", 5)]) (N := ["kind", "most", "root", "ranked", "a", "row"]) (sc := defScope st_small_divisors) (by decide +kernel)) (fun _ _ _ _ _ => pg_name (i := 5) sc_small_divisors.nd rfl (Or.inl rfl)) (fun _ _ _ _ _ => pts_nil) (fun _ _ _ _ _ => (pe_tup (pa_cons (pe_ix ix_tup (pv 5) pe_int (fun _ _ => rfl)) (pa_cons (pe_ix ix_tup (pv 5) pe_int (fun _ _ => rfl)) pa_nil)))))))))), ?_⟩
  refine' q_asg ev_c fun H1 e1 => ?_
  refine' q_while (fun m' σ' H' => ∃ s : Nat, σ' = [some (.int k), some (.int m), some (.int (s : Int)), none, none, none] ∧ Ex H H' ∧ 1 ≤ s ∧ (s = 1 ∨ s * s ≤ m) ∧ s ≤ 400 ∧ m' = 1000 - s) _ ⟨1, rfl, e1, by omega, Or.inl rfl, by omega, rfl⟩ ?_
  rintro m' σ' H' ⟨s, rfl, e2, s1, s3, s2, rfl⟩
  have ecast : ((s : Int) + 1) * ((s : Int) + 1) = (((s + 1) * (s + 1) : Nat) : Int) := by rw [Int.natCast_mul]; rfl
  refine' ⟨_, et_test (ev_op (ev_op (ev_op (ev_var rfl) ev_c rv_I0) (ev_op (ev_var rfl) ev_c rv_I0) (rv_I (C := CMul) (Or.inl ⟨by omega, by omega⟩))) (ev_var rfl) rv_I0), fun c H3 e3 => ?_, fun c H3 e3 => ?_⟩
  · have c2 : ((s : Int) + 1) * ((s : Int) + 1) ≤ (m : Int) := of_decide_eq_true c
    rw [ecast] at c2
    have c3 : (s + 1) * (s + 1) ≤ m := by omega
    refine ⟨fun σ2 H2 => ∃ m', m' < 1000 - s ∧ ∃ s : Nat, σ2 = [some (.int k), some (.int m), some (.int (s : Int)), none, none, none] ∧ Ex H H2 ∧ 1 ≤ s ∧ (s = 1 ∨ s * s ≤ m) ∧ s ≤ 400 ∧ m' = 1000 - s, fun _ _ h => h, ?_⟩
    refine' s_asg (ev_op (ev_var rfl) ev_c rv_I0) fun H4 e4 => ?_
    have hs : s ≤ 399 := by
      rcases Nat.lt_or_ge 399 s with h | h
      · have : 401 * 401 ≤ (s + 1) * (s + 1) := Nat.mul_le_mul (by omega) (by omega)
        omega
      · exact h
    exact ⟨_, by omega, s + 1, rfl, e2.trans (e3.trans e4), by omega, Or.inr c3, by omega, rfl⟩
  · have c2 : m < (s + 1) * (s + 1) := by
      have : ¬ ((s : Int) + 1) * ((s : Int) + 1) ≤ (m : Int) := of_decide_eq_false c
      rw [ecast] at this
      omega
    clear c
    have hlen := fpart_len (k := k) (n := s) (by omega)
    have e23 := e2.trans e3
    have bz : ∀ z ∈ fpart k s, Bd 1152921504606846976 z := fun z hz => (fpart_bd (by omega) hz).mono (by decide)
    refine' q_asgF (R := fun H z x => TripAt H (trip k z) x) (lc_filt (K := K) (L := fpart k s) (fun z => decide (1 < Na02.norm k z)) (fun H z x => TripAt H (trip k z) x) ?hx ?hz (fun e h => h.ex e) (fun h r => r.upd h) ?hw ?ht ?he) fun p us H5 hp e5 hu ha => ?_
    case hx => exact x_call (ax_cons (x_s rfl) (ax_cons (x_s rfl) ax_nil)) ⟨k, s, hk, by omega, rfl, rfl⟩
    case hz => omega
    case hw => exact fun x => rfl
    case ht =>
      intro x z H4 e4 hz hzx
      exact et_test (ev_op (x_call (K := K) (ax_cons (x_s rfl) (ax_cons (x_var rfl hzx) ax_nil)) ⟨k, z, hk, bz z hz, rfl, rfl⟩).ev ev_c rv_I0)
    case he =>
      intro x z H4 e4 hz hzx Q2 q2
      refine (eu_row (x_call (K := K) (ax_cons (x_s rfl) (ax_cons (x_var rfl hzx) ax_nil)) ⟨k, z, hk, bz z hz, rfl, rfl⟩).ev (ev_x0 (x_var rfl hzx)) (ev_x1 (x_var rfl hzx))) H4 (Ex.refl _) _ fun p H5 hp e5 h5 => q2 _ H5 e5 ⟨p, rfl, h5⟩
    have e6 : Ex H H5 := e23.trans e5
    have hkey : ∀ x ∈ us, ∃ z, TripAt H5 (trip k z) x := fun x hx => (all2_mem ha x hx).imp fun z h => h.2
    refine ⟨_, rfl, p, us, keyOf H5, rfl, sq_of hu, fun x hx => ?_, fun ys pp hs hpm hn => ⟨pp, rfl, ⟨ys, sq_of upd_same⟩, ?_⟩⟩
    · obtain ⟨z, hz⟩ := hkey x hx
      rw [hz.key]
      exact hz
    · have eL : ys.map (fun v => (⟨(keyOf H5 v).2.1, (keyOf H5 v).2.2⟩ : NZ)) = cands k m := by
        refine sorted_cands hm s1 s3 c2 ?_ ?_
        · have e := hpm.map (fun v => (⟨(keyOf H5 v).2.1, (keyOf H5 v).2.2⟩ : NZ))
          rw [all2_map (fun z u h => by rw [TripAt.key h]; rfl) ha] at e
          exact e
        · rw [List.pairwise_map]
          refine List.Pairwise.imp_of_mem ?_ hs
          intro x y hx hy h
          obtain ⟨z1, h1⟩ := hkey x (hpm.mem_iff.mp hx)
          obtain ⟨z2, h2⟩ := hkey y (hpm.mem_iff.mp hy)
          rw [h1.key, h2.key] at h ⊢
          exact lt3_no.mp h
      have eEx : Ex H5 (upd H5 pp (.lst ys)) := Ex.new hn
      refine lc_nums (K := K) (cands k m) upd_same (by rw [← eL, List.length_map]) ?_ (fun x => rfl) (fun i x z hx hz => ?_) (fun v H2 e7 h => q v H2 (e6.trans (eEx.trans e7)) h)
      · rw [hpm.length_eq, ha.len]
        exact Nat.le_trans (List.length_filter_le ..) (by omega)
      · obtain ⟨z1, h1⟩ := hkey x (hpm.mem_iff.mp (List.mem_of_getElem? hx))
        rw [← eL, List.getElem?_map, hx] at hz
        have ez : z = z1 := by
          have : (⟨(keyOf H5 x).2.1, (keyOf H5 x).2.2⟩ : NZ) = z := Option.some.inj hz
          rw [← this, h1.key]
          rfl
        subst ez
        have h2 := h1.ex eEx
        exact x_tup2 (ev_ix3 rfl h2).1 (ev_ix3 rfl h2).2
end
end PN
end
section
set_option Elab.async false
set_option maxRecDepth 100000
set_option maxHeartbeats 2000000
set_option linter.all false
namespace PN
open PySem PySem.Spec PyProof.Rows L2 Evl
section
variable {P : Program} {w : World} {K : PySem.W.Frag} {mg : Str → Option Value} {base : Heap} {f : Addr} {fd : FuncData} {pz pt t0 t1 : Addr}
/-- a walk over a list of numbers -/
theorem s_forX {σ : L2.St} {H : Hp} {D : Ends} {tu : TS} {tl : TE} {j : Nat} {L : List NZ} (h : EvX K tl σ H (.nums L)) (Pv : Addr → List V → Nat → L2.St → Hp → Prop)
    (h0 : ∀ a us H1, Ex H H1 → H1 a = some (.lst us) → All2 (fun z u => TupAt K H1 (zt z) u) L us → Pv a us 0 σ H1) (hk : ∀ a us i σ' H', Pv a us i σ' H' → H' a = some (.lst us))
    (hs : ∀ a us i x σ' H', us.length = L.length → us[i]? = some x → Pv a us i σ' H' → tu { D with nx := Pv a us (i + 1), ct := Pv a us (i + 1), bk := D.nx } (σ'.set j (some x)) H') (hd : ∀ a us σ' H', Pv a us L.length σ' H' → D.nx σ' H') : tFor (iList K tl) (gName j) tu D σ H :=
  h H (Ex.refl H) _ fun v H1 e ⟨a, us, ev, ha, hall⟩ => ⟨a, ev, ⟨us, sq_of ha⟩, for_list (Pv a us) (h0 a us H1 e ha hall) (fun i σ' H' _ p => sq_of (hk a us i σ' H' p)) (fun i x σ' H' hi p => hs a us i x σ' H' hall.len hi p) (fun σ' H' p => hd a us σ' H' (hall.len ▸ p))⟩
theorem q_forX {σ : L2.St} {H : Hp} {D : Ends} {tu tz : TS} {tl : TE} {j : Nat} {L : List NZ} (h : EvX K tl σ H (.nums L)) (Pv : Addr → List V → Nat → L2.St → Hp → Prop)
    (h0 : ∀ a us H1, Ex H H1 → H1 a = some (.lst us) → All2 (fun z u => TupAt K H1 (zt z) u) L us → Pv a us 0 σ H1) (hk : ∀ a us i σ' H', Pv a us i σ' H' → H' a = some (.lst us))
    (hs : ∀ a us i x σ' H', us.length = L.length → us[i]? = some x → Pv a us i σ' H' → tu { D with nx := Pv a us (i + 1), ct := Pv a us (i + 1), bk := tz D } (σ'.set j (some x)) H') (hd : ∀ a us σ' H', Pv a us L.length σ' H' → tz D σ' H') : tSeq (tFor (iList K tl) (gName j) tu) tz D σ H :=
  s_forX (D := { D with nx := tz D }) h Pv h0 hk hs hd
theorem take_snoc {α : Type} {l : List α} {i : Nat} {x : α} (h : l[i]? = some x) : l.take (i + 1) = l.take i ++ [x] := by
  rw [List.take_add_one, h]; rfl
/-! is_prime -/
abbrev st_is_prime : Stmt := topS 49
theorem sc_is_prime : FnScope ["kind", "a", "p"] ["kind", "a"] (defScope st_is_prime) := ⟨rfl, rfl, rfl, by decide +kernel, rfl, by decide +kernel, by decide +kernel⟩
def D_prime (l : List Dt) (r : Dt) : Prop := ∃ (k : Nat) (a : NZ), k ≤ 1 ∧ Bd 200 a ∧ l = [.v (.int k), .z a] ∧ r = .v (.bl (Na02.isPrime k a))
theorem ok_prime (F : Fun K "is_prime" "is_prime" st_is_prime f fd) (d_size : Def P w K mg base "size" 1 ["kind", "a"] (spOf K D_size)) (d_small_divisors : Def P w K mg base "small_divisors" 3 ["kind", "most"] (spOf K D_sd))
    (d_divides : Def P w K mg base "divides" 4 ["kind", "b", "a"] (spOf K D_divides)) : FnOk P w K mg base CX0 5 f fd ["kind", "a"] (spOf K D_prime) := by
  refine ok_of F sc_is_prime (fun l r h => by obtain ⟨k, a, _, _, rfl, _⟩ := h; rfl) (fun cdv A outer s H vs Q E l r hr hd hA q => ?_)
  obtain ⟨k, a, hk, ba, rfl, rfl⟩ := hd
  obtain ⟨_, va, rfl, rfl, ha⟩ := all2_2 hA; clear hA
  have hn := norm_bd (k := k) ba
  have hn0 := norm_nonneg k a
  have hM : (Na02.norm k a).toNat < 160000 := by omega
  have eM : (((Na02.norm k a).toNat : Nat) : Int) = Na02.norm k a := by omega
  refine ⟨_, (pss_cons (ps_if (pt_cmpR op_le (pe_cd d_size (hr.mono (by decide)) (by rfl) pass0 (pa_cons (pv 0) (pa_cons (pv 1) pa_nil))) pe_int (nomark _)) (pss_one (ps_ret pe_bl)) pss_nil)
      (pss_cons (ps_for PassesOwn.never rfl (pi_list (pe_cd d_small_divisors (hr.mono (by decide)) (by rfl) pass0 (pa_cons (pv 0) (pa_cons (pe_cd d_size (hr.mono (by decide)) (by rfl) pass0 (pa_cons (pv 0) (pa_cons (pv 1) pa_nil))) pa_nil)))) (pg_name (i := 2) sc_is_prime.nd rfl (Or.inl rfl)) (pss_one (ps_if (pt_val (pe_cd d_divides (hr.mono (by decide)) (by rfl) pass0 (pa_cons (pv 0) (pa_cons (pv 2) (pa_cons (pv 1) pa_nil))))) (pss_one (ps_ret pe_bl)) pss_nil)))
      (pss_one (ps_ret pe_bl)))), ?_⟩
  refine' q_if (et_test (ev_op (x_call (K := K) (ax_cons (x_s rfl) (ax_cons (x_var rfl ha) ax_nil)) ⟨k, a, hk, ba.mono (by decide), rfl, rfl⟩).ev ev_c rv_I0)) (fun c H3 e3 => ?_) (fun c H3 e3 => ?_)
  · refine' s_ret ev_c fun H5 e5 => q _ H5 (e3.trans e5) ?_
    have c2 := of_decide_eq_true c
    show V.bl false = V.bl _
    rw [isPrime_eq, decide_eq_false (by omega)]
    rfl
  · have c2 := of_decide_eq_false c
    replace ha := IsA.ex e3 ha
    dsimp only [tNext]
    refine' q_forX (K := K) (L := cands k (Na02.norm k a).toNat) (x_call (ax_cons (x_s rfl) (ax_cons (x_call (ax_cons (x_s rfl) (ax_cons (x_var rfl ha) ax_nil)) ⟨k, a, hk, ba.mono (by decide), rfl, rfl⟩) ax_nil)) ⟨k, (Na02.norm k a).toNat, hk, hM, by rw [eM], rfl⟩)
      (fun a0 us i σ' H' => ∃ vp, σ' = [some (.int k), some va, vp] ∧ Ex H3 H' ∧ H' a0 = some (.lst us) ∧ All2 (fun z u => TupAt K H' (zt z) u) (cands k (Na02.norm k a).toNat) us ∧ ∀ p ∈ (cands k (Na02.norm k a).toNat).take i, Na02.divides k p a = false)
      (fun a0 us H1 e1 h1 h2 => ⟨none, rfl, e1, h1, h2, fun p hp => absurd hp List.not_mem_nil⟩) (fun a0 us i σ' H' h => h.elim fun _ h => h.2.2.1) ?_ ?_
    · rintro a0 us i x σ' H' hlen hx ⟨vp, rfl, e1, h1, h2, h3⟩
      obtain ⟨p, hp, hpx⟩ := h2.at hx
      obtain ⟨bp, np, _⟩ := cands_bd hM (List.mem_of_getElem? hp)
      replace ha := IsA.ex e1 ha
      refine' s_if (et_B (x_call (K := K) (ax_cons (x_s rfl) (ax_cons (x_var (d := .z p) rfl hpx) (ax_cons (x_var rfl ha) ax_nil))) ⟨k, p, a, hk, ba.mono (by decide), bp.mono (by decide), rfl, rfl⟩).ev) (fun c H4 e4 => ?_) (fun c H4 e4 => ?_)
      · refine' s_ret ev_c fun H5 e5 => q _ H5 ((e3.trans e1).trans (e4.trans e5)) ?_
        show V.bl false = V.bl _
        rw [isPrime_eq]
        have : (List.all (cands k (Na02.norm k a).toNat) fun p => !Na02.divides k p a) = false := by
          rw [List.all_eq_false]
          exact ⟨p, List.mem_of_getElem? hp, by rw [c]; decide⟩
        rw [this, Bool.and_false]
      · dsimp only [tNext]
        refine ⟨_, rfl, e1.trans e4, e4 _ _ h1, h2.imp fun _ _ t => t.ex e4, ?_⟩
        rw [take_snoc hp]
        intro r hr
        rcases List.mem_append.mp hr with h | h
        · exact h3 r h
        · rw [List.mem_singleton.mp h]
          exact c
    · rintro a0 us σ' H' ⟨vp, rfl, e1, h1, h2, h3⟩
      refine' s_ret ev_c fun H5 e5 => q _ H5 ((e3.trans e1).trans e5) ?_
      show V.bl true = V.bl _
      rw [List.take_length] at h3
      rw [isPrime_eq, decide_eq_true (by omega : 1 < Na02.norm k a), Bool.true_and]
      congr 1
      symm
      rw [List.all_eq_true]
      intro p hp
      rw [h3 p hp]
      rfl
end
end PN
end
section
set_option Elab.async false
set_option maxRecDepth 100000
set_option maxHeartbeats 2000000
set_option linter.all false
namespace PN
open PySem PySem.Spec PyProof.Rows L2 Evl
section
variable {P : Program} {w : World} {K : PySem.W.Frag} {mg : Str → Option Value} {base : Heap} {f : Addr} {fd : FuncData} {pz pt t0 t1 : Addr}
theorem IsA.updz {H : Hp} {z : NZ} {x : V} {l : Addr} {xs : List V} {o : HO} (h : IsA K H (.z z) x) (hl : H l = some (.lst xs)) : IsA K (upd H l o) (.z z) x := TupAt.upd h hl
theorem strip_more {k : Nat} {p z0 z : NZ} {n : Nat} (hp : 2 ≤ Na02.norm k p) (hz : z ≠ Na02.zero) (h : Na02.divides k p z = true) (e : strip k p z0 = (n + (strip k p z).1, (strip k p z).2)) :
    strip k p z0 = ((n + 1) + (strip k p (Na02.by_ k z p)).1, (strip k p (Na02.by_ k z p)).2) := by
  rw [e, strip_yes hp hz h]
  simp only [Prod.mk.injEq, and_true]
  omega
/-! take_apart -/
abbrev st_take_apart : Stmt := topS 48
theorem sc_take_apart : FnScope ["kind", "a", "primes", "left", "p", "often", "last"] ["kind", "a"] (defScope st_take_apart) := ⟨rfl, rfl, rfl, by decide +kernel, rfl, by decide +kernel, by decide +kernel⟩
def D_ta (l : List Dt) (r : Dt) : Prop := ∃ (k : Nat) (a : NZ), k ≤ 1 ∧ Bd 200 a ∧ a ≠ Na02.zero ∧ l = [.v (.int k), .z a] ∧ r = .took (unitOf k a) (told k a)
theorem ok_ta (F : Fun K "take_apart" "take_apart" st_take_apart f fd) (d_size : Def P w K mg base "size" 1 ["kind", "a"] (spOf K D_size)) (d_small_divisors : Def P w K mg base "small_divisors" 3 ["kind", "most"] (spOf K D_sd))
    (d_divides : Def P w K mg base "divides" 4 ["kind", "b", "a"] (spOf K D_divides)) (d_quotient : Def P w K mg base "quotient" 2 ["kind", "a", "b"] (spOf K D_quot)) (d_form : Def P w K mg base "form" 2 ["kind", "a"] (spOf K D_form)) : FnOk P w K mg base CX0 5 f fd ["kind", "a"] (spOf K D_ta) := by
  refine ok_of F sc_take_apart (fun l r h => by obtain ⟨k, a, _, _, _, rfl, _⟩ := h; rfl) (fun cdv A outer s H vs Q E l r hr hd hA q => ?_)
  obtain ⟨k, a, hk, ba, na, rfl, rfl⟩ := hd
  obtain ⟨_, va, rfl, rfl, ha⟩ := all2_2 hA; clear hA
  have hn := norm_bd (k := k) ba
  have hn0 := norm_nonneg k a
  have hM : (Na02.norm k a).toNat < 160000 := by omega
  have eM : (((Na02.norm k a).toNat : Nat) : Int) = Na02.norm k a := by omega
  have hL : ∀ i, ∀ p ∈ (cands k (Na02.norm k a).toNat).take i, 2 ≤ Na02.norm k p := fun i p hp => (cands_bd hM (List.mem_of_mem_take hp)).2.2
  have sf := fun i => sweep_facts ((cands k (Na02.norm k a).toNat).take i) a (hL i) na
  have sl := fun i => sweep_len (hL i) na (by omega)
  refine ⟨_, (pss_cons (ps_set (i := 2) sc_take_apart.nd rfl (Or.inl rfl) (pe_lst pa_nil))
      (pss_cons (ps_set (i := 3) sc_take_apart.nd rfl (Or.inl rfl) (pv 1))
      (pss_cons (ps_for PassesOwn.never rfl (pi_list (pe_cd d_small_divisors (hr.mono (by decide)) (by rfl) pass0 (pa_cons (pv 0) (pa_cons (pe_cd d_size (hr.mono (by decide)) (by rfl) pass0 (pa_cons (pv 0) (pa_cons (pv 1) pa_nil))) pa_nil)))) (pg_name (i := 4) sc_take_apart.nd rfl (Or.inl rfl)) (pss_cons (ps_set (i := 5) sc_take_apart.nd rfl (Or.inl rfl) pe_int)
      (pss_cons (ps_while PassesOwn.never (pt_val (pe_cd d_divides (hr.mono (by decide)) (by rfl) pass0 (pa_cons (pv 0) (pa_cons (pv 4) (pa_cons (pv 3) pa_nil))))) (pss_cons (ps_set (i := 3) sc_take_apart.nd rfl (Or.inl rfl) (pe_cd d_quotient (hr.mono (by decide)) (by rfl) pass0 (pa_cons (pv 0) (pa_cons (pv 3) (pa_cons (pv 4) pa_nil)))))
      (pss_one (ps_set (i := 5) sc_take_apart.nd rfl (Or.inl rfl) (pe_op op_add (pv 5) pe_int)))))
      (pss_one (ps_if (pt_cmpR op_gt (pv 5) pe_int (nomark _)) (pss_one (ps_expr (pe_bm PySem.F.plainAttrs_list PySem.F.slot_list_append PySem.F.type_list_append mt_append (pv 2) (pa_cons (pe_tup (pa_cons (pe_ix ix_tup (pv 4) pe_int (fun _ _ => rfl)) (pa_cons (pe_ix ix_tup (pv 4) pe_int (fun _ _ => rfl)) (pa_cons (pv 5) pa_nil)))) pa_nil)))) pss_nil)))))
      (pss_cons (ps_set (i := 6) sc_take_apart.nd rfl (Or.inl rfl) (pe_cd d_form (hr.mono (by decide)) (by rfl) pass0 (pa_cons (pv 0) (pa_cons (pv 3) pa_nil))))
      (pss_cons (ps_if (pt_cmpR op_gt (pe_cd d_size (hr.mono (by decide)) (by rfl) pass0 (pa_cons (pv 0) (pa_cons (pv 6) pa_nil))) pe_int (nomark _)) (pss_one (ps_expr (pe_bm PySem.F.plainAttrs_list PySem.F.slot_list_append PySem.F.type_list_append mt_append (pv 2) (pa_cons (pe_tup (pa_cons (pe_ix ix_tup (pv 6) pe_int (fun _ _ => rfl)) (pa_cons (pe_ix ix_tup (pv 6) pe_int (fun _ _ => rfl)) (pa_cons pe_int pa_nil)))) pa_nil)))) pss_nil)
      (pss_one (ps_ret (pe_tup (pa_cons (pe_cd d_quotient (hr.mono (by decide)) (by rfl) pass0 (pa_cons (pv 0) (pa_cons (pv 3) (pa_cons (pv 6) pa_nil)))) (pa_cons (pv 2) pa_nil)))))))))), ?_⟩
  refine' q_asgL (el_lst ea_nil (by decide)) fun pr H1 npr e1 hpr => ?_
  replace ha := IsA.ex e1 ha
  refine' q_asgX (K := K) (x_var rfl ha) fun lv H2 e2 hlv => ?_
  replace ha := IsA.ex e2 ha
  have hpr2 := e2 _ _ hpr
  refine' q_forX (K := K) (L := cands k (Na02.norm k a).toNat) (x_call (ax_cons (x_s rfl) (ax_cons (x_call (ax_cons (x_s rfl) (ax_cons (x_var rfl ha) ax_nil)) ⟨k, a, hk, ba.mono (by decide), rfl, rfl⟩) ax_nil)) ⟨k, (Na02.norm k a).toNat, hk, hM, by rw [eM], rfl⟩)
    (fun a0 us i σ' H' => ∃ lv vp vo rs, σ' = [some (.int k), some va, some (.ref pr), some lv, vp, vo, none] ∧ Ex H H' ∧ H' a0 = some (.lst us) ∧ All2 (fun z u => TupAt K H' (zt z) u) (cands k (Na02.norm k a).toNat) us ∧ (0 < us.length → a0 ≠ pr) ∧
      IsA K H' (.z (sweep k ((cands k (Na02.norm k a).toNat).take i) a).2) lv ∧ H' pr = some (.lst rs) ∧ All2 (fun r u => TupAt K H' (rt r) u) (sweep k ((cands k (Na02.norm k a).toNat).take i) a).1 rs)
    (fun a0 us H3 e3 h1 h2 => ⟨lv, none, none, [], rfl, (e1.trans e2).trans e3, h1, h2, fun h0 z => ?_, hlv.ex e3, e3 _ _ hpr2, trivial⟩) (fun a0 us i σ' H' h => by obtain ⟨_, _, _, _, _, _, h, _⟩ := h; exact h) ?_ ?_
  · subst z
    rw [e3 _ _ hpr2] at h1
    injection h1 with h1
    injection h1 with h1
    subst h1
    exact absurd h0 (Nat.lt_irrefl 0)
  · rintro a0 us i x σ' H3 hlen hx ⟨lv, vp, vo, rs, rfl, e3, h1, h2, hne, hz0, h4, h5⟩
    obtain ⟨p, hp, hpx⟩ := h2.at hx
    obtain ⟨bp, np, hp2⟩ := cands_bd hM (List.mem_of_getElem? hp)
    have hne2 : a0 ≠ pr := hne (by have := (List.getElem?_eq_some_iff.mp hx).1; omega)
    obtain ⟨z01, z02, _, _⟩ := sf i
    generalize ez : (sweep k ((cands k (Na02.norm k a).toNat).take i) a).2 = z0 at *
    refine' q_asg ev_c fun H4 e4 => ?_
    refine' q_while (fun m' σ' H' => ∃ lv z n, σ' = [some (.int k), some va, some (.ref pr), some lv, some x, some (.int ((n : Nat) : Int)), none] ∧ Ex H4 H' ∧ IsA K H' (.z z) lv ∧ z ≠ Na02.zero ∧ Na02.norm k z ≤ Na02.norm k z0 ∧ strip k p z0 = (n + (strip k p z).1, (strip k p z).2) ∧ m' = (Na02.norm k z).toNat) _
      ⟨lv, z0, 0, rfl, Ex.refl _, hz0.ex e4, z01, Int.le_refl _, by rw [Nat.zero_add], rfl⟩ ?_
    rintro m' σ' H5 ⟨lv2, z, n, rfl, e5, hz, nz, hzn, est, rfl⟩
    have bz : Bd 500 z := bd_norm (k := k) (by decide) (by omega)
    have hpx5 : IsA K H5 (.z p) x := TupAt.ex (e4.trans e5) hpx
    refine' ⟨_, et_B (x_call (K := K) (ax_cons (x_s rfl) (ax_cons (x_var rfl hpx5) (ax_cons (x_var rfl hz) ax_nil))) ⟨k, p, z, hk, bz.mono (by decide), bp.mono (by decide), rfl, rfl⟩).ev, fun c H6 e6 => ?_, fun c H6 e6 => ?_⟩
    · obtain ⟨eq1, _⟩ := quot_of_divides np c
      obtain ⟨_, c1, c2, c3⟩ := by_norm hp2 nz c
      replace hz := IsA.ex e6 hz
      replace hpx5 := IsA.ex e6 hpx5
      refine ⟨fun σ' H' => ∃ m', m' < (Na02.norm k z).toNat ∧ ∃ lv z n, σ' = [some (.int k), some va, some (.ref pr), some lv, some x, some (.int ((n : Nat) : Int)), none] ∧ Ex H4 H' ∧ IsA K H' (.z z) lv ∧ z ≠ Na02.zero ∧ Na02.norm k z ≤ Na02.norm k z0 ∧ strip k p z0 = (n + (strip k p z).1, (strip k p z).2) ∧ m' = (Na02.norm k z).toNat, fun _ _ h => h, ?_⟩
      refine' q_asgX (K := K) (x_call (ax_cons (x_s rfl) (ax_cons (x_var rfl hz) (ax_cons (x_var rfl hpx5) ax_nil))) ⟨k, z, p, hk, bz.mono (by decide), bp.mono (by decide), np, rfl, rfl⟩) fun v H7 e7 hv => ?_
      refine' s_asg (ev_op (ev_var rfl) ev_c rv_I0) fun H8 e8 => ?_
      rw [eq1] at hv
      exact ⟨_, by omega, v, _, n + 1, rfl, e5.trans (e6.trans (e7.trans e8)), hv.ex e8, c3, by omega, strip_more hp2 nz c est, rfl⟩
    · rw [strip_no c] at est
      have e36 : Ex H3 H6 := e4.trans (e5.trans e6)
      replace hz := IsA.ex e6 hz
      replace hpx5 := IsA.ex e6 hpx5
      have hsn : sweep k ((cands k (Na02.norm k a).toNat).take (i + 1)) a = sweepStep k (sweep k ((cands k (Na02.norm k a).toNat).take i) a) p := by rw [take_snoc hp, sweep_snoc]
      have hs2 : (sweep k ((cands k (Na02.norm k a).toNat).take (i + 1)) a).2 = z := by
        rw [hsn]
        show (strip k p (sweep k ((cands k (Na02.norm k a).toNat).take i) a).2).2 = z
        rw [ez, est]
      refine' s_if (et_test (ev_op (ev_var rfl) ev_c rv_I0)) (fun c2 H7 e7 => ?_) (fun c2 H7 e7 => ?_)
      · have c3 : 0 < n := by have := of_decide_eq_true c2; omega
        have e37 := e36.trans e7
        replace hz := IsA.ex e7 hz
        replace hpx5 := IsA.ex e7 hpx5
        refine' s_appU (e37 _ _ h4) (ev_var rfl) (eu_row (ev_x0 (x_var rfl hpx5)) (ev_x1 (x_var rfl hpx5)) (ev_var rfl)) (by rw [h5.len]; have := sl i; omega) fun pp H8 hpp e8 ht => ?_
        have h48 := e8 _ _ (e37 _ _ h4)
        refine ⟨lv2, _, _, rs ++ [.ref pp], rfl, Ex.mut (e3.trans (e37.trans e8)) npr, ?_, ?_, hne, ?_, upd_same, ?_⟩
        · rw [upd_ne hne2]
          exact e8 _ _ (e37 _ _ h1)
        · exact h2.imp fun _ _ t => TupAt.upd ((t.ex e37).ex e8) h48
        · rw [hs2]
          exact (hz.ex e8).updz h48
        · have hs1 : (sweep k ((cands k (Na02.norm k a).toNat).take (i + 1)) a).1 = (sweep k ((cands k (Na02.norm k a).toNat).take i) a).1 ++ [(p, n)] := by
            rw [hsn]
            show (if 0 < (strip k p (sweep k ((cands k (Na02.norm k a).toNat).take i) a).2).1 then _ else _) = _
            rw [ez, est]
            simp only [Nat.add_zero]
            rw [if_pos c3]
          rw [hs1]
          exact All2.snoc (R := fun r u => TupAt K _ (rt r) u) (TupAt.upd ⟨pp, rfl, st_of ht⟩ h48) (h5.imp fun _ _ t => TupAt.upd ((t.ex e37).ex e8) h48)
      · have c3 : n = 0 := by have := of_decide_eq_false c2; omega
        have e37 := e36.trans e7
        replace hz := IsA.ex e7 hz
        dsimp only [tNext]
        refine ⟨lv2, _, _, rs, rfl, e3.trans e37, e37 _ _ h1, h2.imp fun _ _ t => t.ex e37, hne, by rw [hs2]; exact hz, e37 _ _ h4, ?_⟩
        have hs1 : (sweep k ((cands k (Na02.norm k a).toNat).take (i + 1)) a).1 = (sweep k ((cands k (Na02.norm k a).toNat).take i) a).1 := by
          rw [hsn]
          show (if 0 < (strip k p (sweep k ((cands k (Na02.norm k a).toNat).take i) a).2).1 then _ else _) = _
          rw [ez, est]
          simp only [Nat.add_zero]
          rw [if_neg (by omega)]
        rw [hs1]
        exact h5.imp fun _ _ t => t.ex e37
  · rintro a0 us σ' H3 ⟨lv, vp, vo, rs, rfl, e3, h1, h2, hne, hz0, h4, h5⟩
    have sf1 := sf (cands k (Na02.norm k a).toNat).length
    have sl1 := sl (cands k (Na02.norm k a).toNat).length
    rw [List.take_length] at hz0 h5 sf1 sl1
    change IsA K H3 (.z (swept k a).2) lv at hz0
    change All2 (fun r u => TupAt K H3 (rt r) u) (swept k a).1 rs at h5
    change (swept k a).1.length < 17 at sl1
    have nz : (swept k a).2 ≠ Na02.zero := sf1.1
    have nn : Na02.norm k (swept k a).2 ≤ Na02.norm k a := sf1.2.1
    generalize hsw : swept k a = sw at *
    obtain ⟨acc, z⟩ := sw
    dsimp only at hz0 h5 nz nn sl1
    have bz : Bd 500 z := bd_norm (k := k) (by decide) (by omega)
    have nf : Na02.form k z ≠ Na02.zero := form_ne nz
    have bf : Bd 500 (Na02.form k z) := bd_norm (k := k) (by decide) (by rw [form_norm]; omega)
    refine' q_asgX (K := K) (x_call (ax_cons (x_s rfl) (ax_cons (x_var rfl hz0) ax_nil)) ⟨k, z, hk, bz.mono (by decide), rfl, rfl⟩) fun v H4 e4 hv => ?_
    replace hz0 := IsA.ex e4 hz0
    refine' q_if (et_test (ev_op (x_call (K := K) (ax_cons (x_s rfl) (ax_cons (x_var rfl hv) ax_nil)) ⟨k, _, hk, bf.mono (by decide), rfl, rfl⟩).ev ev_c rv_I0)) (fun c H5 e5 => ?_) (fun c H5 e5 => ?_)
    · have c2 := of_decide_eq_true c
      have e35 := e4.trans e5
      replace hv := IsA.ex e5 hv
      replace hz0 := IsA.ex e5 hz0
      refine' s_appU (e35 _ _ h4) (ev_var rfl) (eu_row (ev_x0 (x_var rfl hv)) (ev_x1 (x_var rfl hv)) ev_c) (by rw [h5.len]; omega) fun pp H8 hpp e8 ht => ?_
      have h48 := e8 _ _ (e35 _ _ h4)
      have hz9 := (hz0.ex e8).updz (o := .lst (rs ++ [.ref pp])) h48
      have hv9 := (hv.ex e8).updz (o := .lst (rs ++ [.ref pp])) h48
      have h59 : All2 (fun r u => TupAt K (upd H8 pr (.lst (rs ++ [.ref pp]))) (rt r) u) (told k a) (rs ++ [.ref pp]) := by
        unfold told
        rw [hsw]
        dsimp only
        rw [if_pos c2]
        exact All2.snoc (R := fun r u => TupAt K _ (rt r) u) (TupAt.upd ⟨pp, rfl, st_of ht⟩ h48) (h5.imp fun _ _ t => TupAt.upd ((t.ex e35).ex e8) h48)
      have e9 : Ex H (upd H8 pr (.lst (rs ++ [.ref pp]))) := Ex.mut (e3.trans (e35.trans e8)) npr
      generalize hH9 : upd H8 pr (.lst (rs ++ [.ref pp])) = H9 at *
      have hpr9 : H9 pr = some (.lst (rs ++ [.ref pp])) := by rw [← hH9, upd_same]
      refine (x_call (K := K) (ax_cons (x_s rfl) (ax_cons (x_var rfl hz9) (ax_cons (x_var rfl hv9) ax_nil))) ⟨k, z, _, hk, bz.mono (by decide), bf.mono (by decide), nf, rfl, rfl⟩) H9 (Ex.refl _) _ fun u H10 e10 hu => ⟨_, rfl, (by show 2 ≤ sizeLine; decide), fun t ht => ?_⟩
      refine q _ _ ((e9.trans e10).trans (Ex.new ht)) ⟨u, .ref pr, pr, rs ++ [.ref pp], ⟨t, rfl, st_of upd_same⟩, ?_, rfl, Ex.new ht _ _ (e10 _ _ hpr9), h59.imp fun _ _ y => (y.ex e10).ex (Ex.new ht)⟩
      have : unitOf k a = Na02.quot k z (Na02.form k z) := by unfold unitOf; rw [hsw]
      rw [this]
      exact TupAt.ex (Ex.new ht) hu
    · have c2 := of_decide_eq_false c
      have e35 := e4.trans e5
      replace hv := IsA.ex e5 hv
      replace hz0 := IsA.ex e5 hz0
      dsimp only [tNext]
      have h59 : All2 (fun r u => TupAt K H5 (rt r) u) (told k a) rs := by
        unfold told
        rw [hsw]
        dsimp only
        rw [if_neg c2]
        exact h5.imp fun _ _ t => t.ex e35
      refine (x_call (K := K) (ax_cons (x_s rfl) (ax_cons (x_var rfl hz0) (ax_cons (x_var rfl hv) ax_nil))) ⟨k, z, _, hk, bz.mono (by decide), bf.mono (by decide), nf, rfl, rfl⟩) H5 (Ex.refl _) _ fun u H10 e10 hu => ⟨_, rfl, (by show 2 ≤ sizeLine; decide), fun t ht => ?_⟩
      refine q _ _ (((e3.trans e35).trans e10).trans (Ex.new ht)) ⟨u, .ref pr, pr, rs, ⟨t, rfl, st_of upd_same⟩, ?_, rfl, Ex.new ht _ _ (e10 _ _ (e35 _ _ h4)), h59.imp fun _ _ y => (y.ex e10).ex (Ex.new ht)⟩
      have : unitOf k a = Na02.quot k z (Na02.form k z) := by unfold unitOf; rw [hsw]
      rw [this]
      exact TupAt.ex (Ex.new ht) hu
end
end PN
end
section
set_option Elab.async false
set_option maxRecDepth 100000
set_option maxHeartbeats 2000000
set_option linter.all false
namespace PN
open PySem PySem.Spec PyProof.Rows L2 Evl
/-! ### new lists of ints -/
section
variable {K : PySem.W.Frag} {σ : L2.St} {H : Hp} {te ta tb : TE} {D : Ends}
variable (K) in
def spL (Dom : List Dt → List Int → Prop) : Sp := fun vs H Q _ => ∃ l r, Dom l r ∧ All2 (IsA K H) l vs ∧ ∀ p H', H p = none → Ex H H' → H' p = some (.lst (r.map V.int)) → Q (.ref p) H'
theorem x_callL {Dom : List Dt → List Int → Prop} {l : List Dt} {r : List Int} {E : XK} {t : TA} (h : EvAs K t σ H l) (hd : Dom l r) : EvL (tCall (spL K Dom) [] E t) σ H (r.map V.int) := fun H1 e Q q =>
  h H1 e _ fun vs H2 e2 a => by
    show spL K Dom (vs ++ []) H2 Q E
    rw [List.append_nil]
    exact ⟨l, r, hd, a, fun p H' hp e3 b => q p H' (fresh_back e2 hp) (e2.trans e3) b⟩
theorem el_cat {xs ys : List V} (h1 : EvL ta σ H xs) (h2 : EvL tb σ H ys) (hl : xs.length + ys.length ≤ 100000) : EvL (tOp rCat ta tb) σ H (xs ++ ys) := fun H1 e Q q =>
  h1 H1 e _ fun p H2 hp e2 g1 => h2 H2 (e.trans e2) _ fun p' H3 hp' e3 g2 => ⟨p, p', xs, ys, rfl, rfl, e3 _ _ g1, g2, sz_of hl, fun t ht => q t _ (fresh_back (e2.trans e3) ht) ((e2.trans e3).trans (Ex.new ht)) upd_same⟩
theorem el_listT {a : NZ} (h : EvX K ta σ H (.z a)) : EvL (tCB (rListS K) (tCons ta tNil)) σ H (zt a) := fun H1 e Q q =>
  h H1 e _ fun v H2 e2 ⟨p, ev, hp⟩ => ⟨p, _, by rw [ev], Or.inr hp, fun t ht => q t _ (fresh_back e2 ht) (e2.trans (Ex.new ht)) upd_same⟩
theorem el_1 {n : Int} (h : Ev te σ H (.int n)) : EvL (tLst (tCons te tNil)) σ H ([n].map V.int) := el_lst (ea_cons h ea_nil) (by show 1 ≤ 100000; decide)
theorem el_as {xs : List V} {r : List Int} (h : EvL te σ H xs) (e : xs = r.map V.int) : EvL te σ H (r.map V.int) := e ▸ h
end
section
variable {P : Program} {w : World} {K : PySem.W.Frag} {mg : Str → Option Value} {base : Heap} {f : Addr} {fd : FuncData} {pz pt t0 t1 : Addr}
theorem okL_of {x qual : Str} {st : Stmt} {f : Addr} {fd : FuncData} {N ps : List Str} {k : Nat} {Dom : List Dt → List Int → Prop} (F : Fun K x qual st f fd) (S : FnScope N ps (defScope st)) (hl : ∀ l r, Dom l r → l.length = ps.length)
    (hbody : ∀ (cdv : Value) (A : Around) (outer : List Env) (s : Shared) (H : Hp) (vs : List V) (Q : VK) (E : XK) (l : List Dt) (r : List Int), Room k (A.deeper (envOfC qual (defScope st) s.heap.objs.size f cdv)) → Dom l r → All2 (IsA K H) l vs → (∀ p H', H p = none → Ex H H' → H' p = some (.lst (r.map V.int)) → Q (.ref p) H') →
      ∃ t, PSs (cxOf CX0 P w K mg base N qual (defScope st) f cdv A outer s H E).nox (defBody st) t ∧ t { nx := fun _ H' => Q .non H', rt := Q } (start N vs) H) : FnOk P w K mg base CX0 (k + 1) f fd ps (spL K Dom) := by
  refine F.ok S (fun vs H Q E h => ?_) (fun cdv A outer s H vs Q E hr h => ?_)
  · obtain ⟨l, r, hd, ha, _⟩ := h
    rw [ha.len, hl l r hd]
  · obtain ⟨l, r, hd, ha, q⟩ := h
    exact hbody cdv A outer s H vs Q E l r hr hd ha q
/-! signed -/
abbrev st_signed : Stmt := topS 30
theorem sc_signed : FnScope ["handed"] ["handed"] (defScope st_signed) := ⟨rfl, rfl, rfl, by decide +kernel, rfl, by decide +kernel, by decide +kernel⟩
def D_signed (l : List Dt) (r : Dt) : Prop := ∃ (n : Nat), l = [.v (.int (n : Int))] ∧ r = .v (.int (Na02Neutral.whole n))
theorem ok_signed (F : Fun K "signed" "signed" st_signed f fd) : FnOk P w K mg base CX0 1 f fd ["handed"] (spOf K D_signed) := by
  refine ok_of F sc_signed (fun l r h => by obtain ⟨n, rfl, _⟩ := h; rfl) (fun cdv A outer s H vs Q E l r hr hd hA q => ?_)
  obtain ⟨n, rfl, rfl⟩ := hd
  obtain ⟨_, rfl, rfl⟩ := all2_1 hA; clear hA
  refine ⟨_, (pss_cons (ps_if (pt_cmpR op_eq (pe_op op_modN (pv 0) pe_int) pe_int (nomark _)) (pss_one (ps_ret (pe_op op_fdivN (pv 0) pe_int))) pss_nil)
      (pss_one (ps_ret (pe_un un_neg (pe_op op_fdivN (pe_op op_add (pv 0) pe_int) pe_int))))), ?_⟩
  have em : (n : Int).fmod 2 = ((n % 2 : Nat) : Int) := by rw [Int.fmod_eq_emod_of_nonneg _ (by decide)]; omega
  refine' q_if (et_test (ev_eqi (ev_op (ev_var rfl) ev_c (rv_I (C := fun _ j => j ≠ 0) (by decide))) ev_c)) (fun c H3 e3 => ?_) (fun c H3 e3 => ?_)
  · have c2 := of_decide_eq_true c
    refine' s_ret (ev_op (ev_var rfl) ev_c (rv_I (C := CDivN) (cdivn (by decide) (by decide)))) fun H5 e5 => q _ H5 (e3.trans e5) ?_
    show V.int _ = V.int _
    congr 1
    rw [em] at c2
    unfold Na02Neutral.whole
    rw [if_pos (by omega), Int.fdiv_eq_ediv_of_nonneg _ (by decide)]
    omega
  · have c2 := of_decide_eq_false c
    dsimp only [tNext]
    refine' s_ret (ev_un (ev_op (ev_op (ev_var rfl) ev_c rv_I0) ev_c (rv_I (C := CDivN) (cdivn (by decide) (by decide)))) ru_neg) fun H5 e5 => q _ H5 (e3.trans e5) ?_
    show V.int _ = V.int _
    congr 1
    rw [em] at c2
    unfold Na02Neutral.whole
    rw [if_neg (by omega), Int.fdiv_eq_ediv_of_nonneg _ (by decide)]
    omega
/-! numbers_of: two by two -/
theorem ev_ixI {σ : L2.St} {H : Hp} {i : Nat} {ti : TE} {p : Addr} {l : List Int} {j : Nat} {n : Int} (h : σ[i]? = some (some (.ref p))) (hp : H p = some (.lst (l.map V.int))) (hi : Ev ti σ H (.int (j : Int))) (hj : l[j]? = some n) : Ev (tOp (rIxL K) (tVar i) ti) σ H (.int n) :=
  ev_op (ev_var h) hi (rv_ixL (sq_of hp) (atI_nat (by rw [List.getElem?_map, hj]; rfl)))
theorem q_forR3 {σ : L2.St} {H : Hp} {D : Ends} {tu tz : TS} {ta : TA} {j : Nat} {lo n c : Int} {m : Nat} (h : EvA ta σ H [.int lo, .int n, .int c]) (hc : RgC lo n c m) (Pv : Nat → L2.St → Hp → Prop) (h0 : ∀ H1, Ex H H1 → Pv 0 σ H1)
    (hs : ∀ (i : Nat) σ' H', i < m → Pv i σ' H' → tu { D with nx := Pv (i + 1), ct := Pv (i + 1), bk := tz D } (σ'.set j (some (.int (lo + (i : Nat) * c)))) H') (hd : ∀ σ' H', Pv m σ' H' → tz D σ' H') : tSeq (tFor (iRng3 ta) (gName j) tu) tz D σ H :=
  h H (Ex.refl H) _ fun H1 e => ⟨lo, n, c, m, rfl, hc, for_rangeC (D := { D with nx := tz D }) Pv (h0 H1 e) (fun i σ' H' hi p => hs i σ' H' hi p) hd⟩
theorem rg2 : ∀ n : Nat, n < 31 → 1 ≤ n → RgC 0 ((n : Int) - 1) 2 (n / 2) := by
  unfold RgC
  decide +kernel
/-! numbers_of -/
abbrev st_numbers_of : Stmt := topS 31
theorem sc_numbers_of : FnScope ["handed", "numbers", "k"] ["handed"] (defScope st_numbers_of) := ⟨rfl, rfl, rfl, by decide +kernel, rfl, by decide +kernel, by decide +kernel⟩
def D_numbers (l : List Dt) (r : Dt) : Prop := ∃ (ns : List Nat), 1 ≤ ns.length ∧ ns.length ≤ 30 ∧ l = [.ints (nats ns)] ∧ r = .nums (pairs ns)
theorem ok_numbers (F : Fun K "numbers_of" "numbers_of" st_numbers_of f fd) (n_range : mg "range" = none) (n_len : mg "len" = none) (d_signed : Def P w K mg base "signed" 1 ["handed"] (spOf K D_signed)) : FnOk P w K mg base CX0 2 f fd ["handed"] (spOf K D_numbers) := by
  refine ok_of F sc_numbers_of (fun l r h => by obtain ⟨n, _, _, rfl, _⟩ := h; rfl) (fun cdv A outer s H vs Q E l r hr hd hA q => ?_)
  obtain ⟨ns, h2, h30, rfl, rfl⟩ := hd
  obtain ⟨_, rfl, ⟨ph, rfl, hh⟩⟩ := all2_1 hA; clear hA
  refine ⟨_, (pss_cons (ps_set (i := 1) sc_numbers_of.nd rfl (Or.inl rfl) (pe_lst pa_nil))
      (pss_cons (ps_for PassesOwn.never rfl (pi_range3 (by rfl) n_range (pa_cons pe_int (pa_cons (pe_op op_sub (pe_callB call_len_seq (by rfl) n_len PySem.boot_len (pa_cons (pv 0) pa_nil)) pe_int) (pa_cons pe_int pa_nil)))) (pg_name (i := 2) sc_numbers_of.nd rfl (Or.inl rfl)) (pss_one (ps_expr (pe_bm PySem.F.plainAttrs_list PySem.F.slot_list_append PySem.F.type_list_append mt_append (pv 1) (pa_cons (pe_tup (pa_cons (pe_cd d_signed (hr.mono (by decide)) (by rfl) pass0 (pa_cons (pe_ix ix_list (pv 0) (pv 2) (fun _ _ => rfl)) pa_nil)) (pa_cons (pe_cd d_signed (hr.mono (by decide)) (by rfl) pass0 (pa_cons (pe_ix ix_list (pv 0) (pe_op op_add (pv 2) pe_int) (fun _ _ => rfl)) pa_nil)) pa_nil))) pa_nil)))))
      (pss_one (ps_ret (pv 1))))), ?_⟩
  refine' q_asgL (el_lst ea_nil (by decide)) fun pn H1 npn e1 hpn => ?_
  have hh1 := e1 _ _ hh
  have elen : ((nats ns).map V.int).length = ns.length := by
    unfold nats
    rw [List.length_map, List.length_map]
  have elv := ev_len (K := K) (σ := [some (.ref ph), some (.ref pn), none]) (ta := tVar 0) (ev_var rfl) (sq_of hh1)
  rw [elen] at elv
  refine' q_forR3 (ea_cons ev_c (ea_cons (ev_op elv ev_c rv_I0) (ea_cons ev_c ea_nil))) (rg2 ns.length (by omega) h2) (fun i σ' H' => ∃ vk us, σ' = [some (.ref ph), some (.ref pn), vk] ∧ Ex H H' ∧ H' pn = some (.lst us) ∧ All2 (fun z u => TupAt K H' (zt z) u) ((pairs ns).take i) us) (fun H2 e2 => ⟨none, [], rfl, e1.trans e2, e2 _ _ hpn, trivial⟩) ?_ ?_
  · rintro i σ' H3 hi ⟨vk, us, rfl, e3, hu, ha⟩
    have hh3 := e3 _ _ hh
    obtain ⟨n1, hn1⟩ : ∃ a, ns[2 * i]? = some a := ⟨_, List.getElem?_eq_getElem (by omega)⟩
    obtain ⟨n2, hn2⟩ : ∃ a, ns[2 * i + 1]? = some a := ⟨_, List.getElem?_eq_getElem (by omega)⟩
    have hp := pairs_at ns i n1 n2 hn1 hn2
    have hix1 : (nats ns)[2 * i]? = some (n1 : Int) := by unfold nats; rw [List.getElem?_map, hn1]; rfl
    have hix2 : (nats ns)[2 * i + 1]? = some (n2 : Int) := by unfold nats; rw [List.getElem?_map, hn2]; rfl
    have ei : (0 : Int) + (i : Nat) * 2 = ((2 * i : Nat) : Int) := by omega
    show tDrop _ _ (_ : L2.St) H3
    rw [ei]
    refine' s_appU hu (ev_var rfl) (eu_tup (ea_cons (x_call (K := K) (ax_cons (ev_x (ev_ixI rfl hh3 (ev_var rfl) hix1)) ax_nil) ⟨n1, rfl, rfl⟩).ev (ea_cons (x_call (K := K) (ax_cons (ev_x (ev_ixI rfl hh3 (ev_is (ev_op (ev_var rfl) ev_c rv_I0) ?e) hix2)) ax_nil) ⟨n2, rfl, rfl⟩).ev ea_nil)) (by show 2 ≤ 100000; decide)) ?l fun pp H8 hpp e8 ht => ?_
    case e =>
      congr 1
    case l =>
      rw [ha.len, List.length_take, pairs_len]
      omega
    have hu8 := e8 _ _ hu
    refine ⟨_, us ++ [.ref pp], rfl, Ex.mut (e3.trans e8) npn, upd_same, ?_⟩
    rw [take_snoc hp]
    exact All2.snoc (R := fun z u => TupAt K _ (zt z) u) (TupAt.upd ⟨pp, rfl, st_of ht⟩ hu8) (ha.imp fun _ _ t => TupAt.upd (t.ex e8) hu8)
  · rintro σ' H3 ⟨vk, us, rfl, e3, hu, ha⟩
    rw [List.take_of_length_le (by rw [pairs_len]; exact Nat.le_refl _)] at ha
    have hv : IsA K H3 (.nums (pairs ns)) (.ref pn) := ⟨pn, us, rfl, hu, ha⟩
    refine' s_retX (K := K) (x_var rfl hv) fun v H5 e5 h => q v H5 (e3.trans e5) h
/-! all_in_range -/
abbrev st_all_in_range : Stmt := topS 32
theorem sc_all_in_range : FnScope ["numbers", "a"] ["numbers"] (defScope st_all_in_range) := ⟨rfl, rfl, rfl, by decide +kernel, rfl, by decide +kernel, by decide +kernel⟩
def D_range (l : List Dt) (r : Dt) : Prop := ∃ (zs : List NZ), l = [.nums zs] ∧ r = .v (.bl (zs.all Na02.small))
theorem ev_abs {σ : L2.St} {H : Hp} {ta : TE} {i : Int} (h : Ev ta σ H (.int i)) : Ev (tCB (fun xs H Q => ∃ i, xs = [.int i] ∧ Q (.int (if i < 0 then -i else i)) H) (tCons ta tNil)) σ H (.int (if i < 0 then -i else i)) := fun H1 e Q q =>
  h H1 e _ fun H2 e2 => ⟨i, rfl, q H2 e2⟩
theorem ok_range (F : Fun K "all_in_range" "all_in_range" st_all_in_range f fd) (n_abs : mg "abs" = none) (g_EDGE : GlobV mg "EDGE" (.int 100)) : FnOk P w K mg base CX0 1 f fd ["numbers"] (spOf K D_range) := by
  refine ok_of F sc_all_in_range (fun l r h => by obtain ⟨n, rfl, _⟩ := h; rfl) (fun cdv A outer s H vs Q E l r hr hd hA q => ?_)
  obtain ⟨zs, rfl, rfl⟩ := hd
  obtain ⟨vn, rfl, hn⟩ := all2_1 hA; clear hA
  refine ⟨_, (pss_cons (ps_for PassesOwn.never rfl (pi_list (pv 0)) (pg_name (i := 1) sc_all_in_range.nd rfl (Or.inl rfl)) (pss_one (ps_if (PW.pt (pw_or (pt_cmpR op_gt (pe_callB call_abs (by rfl) n_abs (by decide +kernel) (pa_cons (pe_ix ix_tup (pv 1) pe_int (fun _ _ => rfl)) pa_nil)) (pe_gv g_EDGE (by rfl)) (nomark _)) (pw_or1 (pt_cmpR op_gt (pe_callB call_abs (by rfl) n_abs (by decide +kernel) (pa_cons (pe_ix ix_tup (pv 1) pe_int (fun _ _ => rfl)) pa_nil)) (pe_gv g_EDGE (by rfl)) (nomark _))))) (pss_one (ps_ret pe_bl)) pss_nil)))
      (pss_one (ps_ret pe_bl))), ?_⟩
  refine' q_forX (K := K) (L := zs) (x_var rfl hn) (fun a0 us i σ' H' => ∃ va, σ' = [some vn, va] ∧ Ex H H' ∧ H' a0 = some (.lst us) ∧ All2 (fun z u => TupAt K H' (zt z) u) zs us ∧ (zs.take i).all Na02.small = true)
    (fun a0 us H1 e1 h1 h2 => ⟨none, rfl, e1, h1, h2, rfl⟩) (fun a0 us i σ' H' h => by obtain ⟨_, _, _, h, _⟩ := h; exact h) ?_ ?_
  · rintro a0 us i x σ' H' hlen hx ⟨va, rfl, e1, h1, h2, h3⟩
    obtain ⟨z, hz, hzx⟩ := h2.at hx
    have hzx' : IsA K H' (.z z) x := hzx
    have et := et_or (et_test (ev_op (ev_abs (ev_x0 (x_var (K := K) (σ := [some vn, some x]) (i := 1) rfl hzx'))) (ev_c (v := .int 100)) (rv_I0 (g := fun i j => .bl (decide (j < i)))))) fun _ => et_test (ev_op (ev_abs (ev_x1 (x_var (K := K) (σ := [some vn, some x]) (i := 1) rfl hzx'))) (ev_c (v := .int 100)) (rv_I0 (g := fun i j => .bl (decide (j < i)))))
    have eb : (decide (100 < if z.x < 0 then -z.x else z.x) || decide (100 < if z.y < 0 then -z.y else z.y)) = !Na02.small z := by
      unfold Na02.small
      rw [Bool.eq_iff_iff]
      simp only [Bool.or_eq_true, decide_eq_true_eq, Bool.not_eq_true', Bool.and_eq_false_iff, decide_eq_false_iff_not]
      split <;> split <;> omega
    rw [eb] at et
    refine' s_if et (fun c H4 e4 => ?_) (fun c H4 e4 => ?_)
    · refine' s_ret ev_c fun H5 e5 => q _ H5 (e1.trans (e4.trans e5)) ?_
      show V.bl false = V.bl _
      congr 1
      symm
      rw [List.all_eq_false]
      exact ⟨z, List.mem_of_getElem? hz, by simpa using c⟩
    · dsimp only [tNext]
      refine ⟨_, rfl, e1.trans e4, e4 _ _ h1, h2.imp fun _ _ t => t.ex e4, ?_⟩
      rw [take_snoc hz, List.all_append, h3]
      simpa using c
  · rintro a0 us σ' H' ⟨va, rfl, e1, h1, h2, h3⟩
    refine' s_ret ev_c fun H5 e5 => q _ H5 (e1.trans e5) ?_
    rw [List.take_length] at h3
    show V.bl true = V.bl _
    rw [h3]
end
end PN
end
section
set_option Elab.async false
set_option maxRecDepth 100000
set_option maxHeartbeats 2000000
set_option linter.all false
namespace PN
open PySem PySem.Spec PyProof.Rows L2 Evl
section
variable {P : Program} {w : World} {K : PySem.W.Frag} {mg : Str → Option Value} {base : Heap} {f : Addr} {fd : FuncData} {pz pt t0 t1 : Addr}
theorem s_extL {σ : L2.St} {H : Hp} {ta te : TE} {D : Ends} {l : Addr} {xs ys : List V} (hl : H l = some (.lst xs)) (ha : Ev ta σ H (.ref l)) (h : EvL te σ H ys) (hz : xs.length + ys.length ≤ 100000) (k : ∀ H1, Ex H H1 → D.nx σ (upd H1 l (.lst (xs ++ ys)))) :
    tDrop (tBM K "list" rExtend ta (tCons te tNil)) D σ H := ha H (Ex.refl H) _ fun H1 e1 =>
  ⟨Or.inl ⟨rfl, xs, sq_of (e1 l _ hl)⟩, h H1 e1 _ fun p H2 hp e2 h2 => ⟨l, p, xs, ys, rfl, rfl, e2 l _ (e1 l _ hl), h2, sz_of hz, k H2 (e1.trans e2)⟩⟩
theorem el_listV {σ : L2.St} {H : Hp} {i : Nat} {x : V} {xs : List V} (h : σ[i]? = some (some x)) (ht : TupAt K H xs x) : EvL (tCB (rListS K) (tCons (tVar i) tNil)) σ H xs := fun H1 e Q q => by
  obtain ⟨p, rfl, hp⟩ := ht.ex e
  exact ⟨_, h, p, _, rfl, Or.inr hp, fun t ht => q t _ ht (Ex.new ht) upd_same⟩
theorem s_retI {σ : L2.St} {H : Hp} {te : TE} {D : Ends} {r : List Int} (h : EvL te σ H (r.map V.int)) (k : ∀ p H1, H p = none → Ex H H1 → H1 p = some (.lst (r.map V.int)) → D.rt (.ref p) H1) : tRet te D σ H := s_retL h k
/-! kind_answer -/
abbrev st_kind_answer : Stmt := topS 24
theorem sc_kind_answer : FnScope ["k"] ["k"] (defScope st_kind_answer) := ⟨rfl, rfl, rfl, by decide +kernel, rfl, by decide +kernel, by decide +kernel⟩
def D_kind (l : List Dt) (r : List Int) : Prop := ∃ (n : Nat), l = [.v (.int (n : Int))] ∧ r = if 1 < n then [-1] else Na02.ints [(Na02.units n).length]
theorem ok_kind {pu : Addr} (F : Fun K "kind_answer" "kind_answer" st_kind_answer f fd) (g_OUT_OF_RANGE : GlobV mg "OUT_OF_RANGE" (.int (-1))) (g_UNITS : GlobV mg "UNITS" (.ref pu)) (ku : KT K pu [.int 4, .int 6]) : FnOk P w K mg base CX0 1 f fd ["k"] (spL K D_kind) := by
  refine okL_of F sc_kind_answer (fun l r h => by obtain ⟨n, rfl, _⟩ := h; rfl) (fun cdv A outer s H vs Q E l r hr hd hA q => ?_)
  obtain ⟨n, rfl, rfl⟩ := hd
  obtain ⟨_, rfl, rfl⟩ := all2_1 hA; clear hA
  refine ⟨_, (pss_cons (ps_if (pt_cmpR op_gt (pv 0) pe_int (nomark _)) (pss_one (ps_ret (pe_lst (pa_cons (pe_gv g_OUT_OF_RANGE (by rfl)) pa_nil)))) pss_nil)
      (pss_one (ps_ret (pe_lst (pa_cons (pe_ix ix_tup (pe_gv g_UNITS (by rfl)) (pv 0) (fun _ _ => rfl)) pa_nil))))), ?_⟩
  refine' q_if (et_test (ev_op (ev_var rfl) ev_c rv_I0)) (fun c H3 e3 => ?_) (fun c H3 e3 => ?_)
  · have c2 := of_decide_eq_true c
    refine' s_retI (r := [-1]) (el_1 ev_c) fun p H5 hp e5 h => q p H5 (fresh_back e3 hp) (e3.trans e5) ?_
    rw [if_pos (by omega)]
    exact h
  · have c2 := of_decide_eq_false c
    dsimp only [tNext]
    have h2 : n = 0 ∨ n = 1 := by omega
    rcases h2 with rfl | rfl
    · refine' s_retI (r := [4]) (el_1 (ev_op ev_c (ev_var rfl) (rv_ixT (ku.sq H3) rfl))) fun p H5 hp e5 h => q p H5 (fresh_back e3 hp) (e3.trans e5) h
    · refine' s_retI (r := [6]) (el_1 (ev_op ev_c (ev_var rfl) (rv_ixT (ku.sq H3) rfl))) fun p H5 hp e5 h => q p H5 (fresh_back e3 hp) (e3.trans e5) h
/-! divide_answer -/
abbrev st_divide_answer : Stmt := topS 25
theorem sc_divide_answer : FnScope ["kind", "a", "b"] ["kind", "a", "b"] (defScope st_divide_answer) := ⟨rfl, rfl, rfl, by decide +kernel, rfl, by decide +kernel, by decide +kernel⟩
def D_divide (l : List Dt) (r : List Int) : Prop := ∃ (k : Nat) (a b : NZ), k ≤ 1 ∧ Bd 100 a ∧ Bd 100 b ∧ l = [.v (.int (k : Int)), .z a, .z b] ∧ r = if b = Na02.zero then [-6] else Na02.shown (Na02.quot k a b) ++ [(Na02.rest k a b).x, (Na02.rest k a b).y]
theorem ok_divide (F : Fun K "divide_answer" "divide_answer" st_divide_answer f fd) (g : Gs K mg pz pt t0 t1) (n_list : mg "list" = none) (g_IS_ZERO : GlobV mg "IS_ZERO" (.int (-6))) (d_quotient : Def P w K mg base "quotient" 2 ["kind", "a", "b"] (spOf K D_quot))
    (d_rest : Def P w K mg base "rest" 3 ["kind", "a", "b"] (spOf K D_rest)) : FnOk P w K mg base CX0 4 f fd ["kind", "a", "b"] (spL K D_divide) := by
  have g_ZERO := g.gz
  refine okL_of F sc_divide_answer (fun l r h => by obtain ⟨k, a, b, _, _, _, rfl, _⟩ := h; rfl) (fun cdv A outer s H vs Q E l r hr hd hA q => ?_)
  obtain ⟨k, a, b, hk, ba, bb, rfl, rfl⟩ := hd
  obtain ⟨_, va, vb, rfl, rfl, ha, hb⟩ := all2_3 hA; clear hA
  refine ⟨_, (pss_cons (ps_if (pt_cmpR (op_eqD hr.units) (pv 2) (pe_gv g_ZERO (by rfl)) (nomark _)) (pss_one (ps_ret (pe_lst (pa_cons (pe_gv g_IS_ZERO (by rfl)) pa_nil)))) pss_nil)
      (pss_one (ps_ret (pe_op op_cat (pe_op op_cat (pe_lst (pa_cons pe_int pa_nil)) (pe_callTy call_list_of (by rfl) n_list (by decide +kernel) (pa_cons (pe_cd d_quotient (hr.mono (by decide)) (by rfl) pass0 (pa_cons (pv 0) (pa_cons (pv 1) (pa_cons (pv 2) pa_nil)))) pa_nil))) (pe_callTy call_list_of (by rfl) n_list (by decide +kernel) (pa_cons (pe_cd d_rest (hr.mono (by decide)) (by rfl) pass0 (pa_cons (pv 0) (pa_cons (pv 1) (pa_cons (pv 2) pa_nil)))) pa_nil)))))), ?_⟩
  refine' q_if (et_test (ev_eqz (x_var rfl hb) (x_c (g.zero H)))) (fun c H3 e3 => ?_) (fun c H3 e3 => ?_)
  · have c2 := of_decide_eq_true c
    refine' s_retI (r := [-6]) (el_1 ev_c) fun p H5 hp e5 h => q p H5 (fresh_back e3 hp) (e3.trans e5) ?_
    rw [if_pos c2]
    exact h
  · have c2 := of_decide_eq_false c
    replace ha := IsA.ex e3 ha
    replace hb := IsA.ex e3 hb
    dsimp only [tNext]
    refine' s_retL (el_cat (el_cat (el_1 ev_c) (el_listT (K := K) (x_call (ax_cons (x_s rfl) (ax_cons (x_var rfl ha) (ax_cons (x_var rfl hb) ax_nil))) ⟨k, a, b, hk, ba.mono (by decide), bb.mono (by decide), c2, rfl, rfl⟩)) (by show 3 ≤ 100000; decide))
      (el_listT (K := K) (x_call (ax_cons (x_s rfl) (ax_cons (x_var rfl ha) (ax_cons (x_var rfl hb) ax_nil))) ⟨k, a, b, hk, ba.mono (by decide), bb.mono (by decide), c2, rfl, rfl⟩)) (by show 5 ≤ 100000; decide)) fun p H5 hp e5 h => q p H5 (fresh_back e3 hp) (e3.trans e5) ?_
    rw [if_neg c2]
    exact h
/-! apart_answer -/
theorem told_len {k : Nat} {a : NZ} (ba : Bd 200 a) (na : a ≠ Na02.zero) : (told k a).length ≤ 17 := by
  have hn := norm_bd (k := k) ba
  have hn0 := norm_nonneg k a
  have hM : (Na02.norm k a).toNat < 160000 := by omega
  have h := sweep_len (k := k) (l := cands k (Na02.norm k a).toNat) (fun p hp => (cands_bd hM hp).2.2) na (by omega)
  unfold told swept
  split
  · rw [List.length_append]
    show _ + 1 ≤ 17
    omega
  · omega
def rowI (r : NZ × Nat) : List Int := [r.1.x, r.1.y, (r.2 : Int)]
theorem rt_rowI (r : NZ × Nat) : rt r = (rowI r).map V.int := rfl
/-! apart_answer -/
abbrev st_apart_answer : Stmt := topS 26
theorem sc_apart_answer : FnScope ["kind", "a", "taken", "unit", "primes", "told", "row"] ["kind", "a"] (defScope st_apart_answer) := ⟨rfl, rfl, rfl, by decide +kernel, rfl, by decide +kernel, by decide +kernel⟩
def D_apart (l : List Dt) (r : List Int) : Prop := ∃ (k : Nat) (a : NZ), k ≤ 1 ∧ Bd 100 a ∧ l = [.v (.int (k : Int)), .z a] ∧ r = if a = Na02.zero then [-6] else [0, (unitOf k a).x, (unitOf k a).y, ((told k a).length : Int)] ++ (told k a).flatMap rowI
theorem ok_apart (F : Fun K "apart_answer" "apart_answer" st_apart_answer f fd) (g : Gs K mg pz pt t0 t1) (n_list : mg "list" = none) (n_len : mg "len" = none) (g_IS_ZERO : GlobV mg "IS_ZERO" (.int (-6))) (d_take_apart : Def P w K mg base "take_apart" 5 ["kind", "a"] (spOf K D_ta)) :
    FnOk P w K mg base CX0 6 f fd ["kind", "a"] (spL K D_apart) := by
  have g_ZERO := g.gz
  refine okL_of F sc_apart_answer (fun l r h => by obtain ⟨k, a, _, _, rfl, _⟩ := h; rfl) (fun cdv A outer s H vs Q E l r hr hd hA q => ?_)
  obtain ⟨k, a, hk, ba, rfl, rfl⟩ := hd
  obtain ⟨_, va, rfl, rfl, ha⟩ := all2_2 hA; clear hA
  refine ⟨_, (pss_cons (ps_if (pt_cmpR (op_eqD hr.units) (pv 1) (pe_gv g_ZERO (by rfl)) (nomark _)) (pss_one (ps_ret (pe_lst (pa_cons (pe_gv g_IS_ZERO (by rfl)) pa_nil)))) pss_nil)
      (pss_cons (ps_set (i := 2) sc_apart_answer.nd rfl (Or.inl rfl) (pe_cd d_take_apart (hr.mono (by decide)) (by rfl) pass0 (pa_cons (pv 0) (pa_cons (pv 1) pa_nil))))
      (pss_cons (ps_set (i := 3) sc_apart_answer.nd rfl (Or.inl rfl) (pe_ix ix_tup (pv 2) pe_int (fun _ _ => rfl)))
      (pss_cons (ps_set (i := 4) sc_apart_answer.nd rfl (Or.inl rfl) (pe_ix ix_tup (pv 2) pe_int (fun _ _ => rfl)))
      (pss_cons (ps_set (i := 5) sc_apart_answer.nd rfl (Or.inl rfl) (pe_lst (pa_cons pe_int (pa_cons (pe_ix ix_tup (pv 3) pe_int (fun _ _ => rfl)) (pa_cons (pe_ix ix_tup (pv 3) pe_int (fun _ _ => rfl)) (pa_cons (pe_callB call_len_seq (by rfl) n_len PySem.boot_len (pa_cons (pv 4) pa_nil)) pa_nil))))))
      (pss_cons (ps_for PassesOwn.never rfl (pi_list (pv 4)) (pg_name (i := 6) sc_apart_answer.nd rfl (Or.inl rfl)) (pss_one (ps_expr (pe_bm PySem.F.plainAttrs_list PySem.F.slot_list_extend PySem.F.type_list_extend mt_extend (pv 5) (pa_cons (pe_callTy call_list_of (by rfl) n_list (by decide +kernel) (pa_cons (pv 6) pa_nil)) pa_nil)))))
      (pss_one (ps_ret (pv 5))))))))), ?_⟩
  refine' q_if (et_test (ev_eqz (x_var rfl ha) (x_c (g.zero H)))) (fun c H3 e3 => ?_) (fun c H3 e3 => ?_)
  · have c2 := of_decide_eq_true c
    refine' s_retI (r := [-6]) (el_1 ev_c) fun p H5 hp e5 h => q p H5 (fresh_back e3 hp) (e3.trans e5) ?_
    rw [if_pos c2]
    exact h
  · have c2 := of_decide_eq_false c
    rw [if_neg c2] at q
    replace ha := IsA.ex e3 ha
    dsimp only [tNext]
    have hlen := told_len (k := k) (ba.mono (by decide)) c2
    refine' q_asgX (K := K) (x_call (ax_cons (x_s rfl) (ax_cons (x_var rfl ha) ax_nil)) ⟨k, a, hk, ba.mono (by decide), c2, rfl, rfl⟩) fun vt H4 e4 ht => ?_
    obtain ⟨vu, _, pr, rs, ht, hu, rfl, hpr, hall⟩ := ht
    obtain ⟨pk, rfl, hpk⟩ := ht
    refine' q_asg (ev_op (ev_var rfl) ev_c (rv_ixT hpk rfl)) fun H5 e5 => ?_
    refine' q_asg (ev_op (ev_var rfl) ev_c (rv_ixT (ex_t e5 hpk) rfl)) fun H6 e6 => ?_
    have e46 := e5.trans e6
    have hu6 : IsA K H6 (.z (unitOf k a)) vu := TupAt.ex e46 hu
    have hpr6 := e46 _ _ hpr
    have el : rs.length = (told k a).length := hall.len
    refine' q_asgL (el_lst (ea_cons ev_c (ea_cons (ev_x0 (x_var rfl hu6)) (ea_cons (ev_x1 (x_var rfl hu6)) (ea_cons (ev_len (ev_var rfl) (sq_of hpr6)) ea_nil)))) (by show 4 ≤ 100000; decide)) fun pd H7 npd e7 hpd => ?_
    have npr : pd ≠ pr := fun z => by
      rw [z, hpr6] at npd
      cases npd
    have hbase : H pd = none := fresh_back (e3.trans (e4.trans e46)) npd
    have hpr7 := e7 _ _ hpr6
    refine s_forL (D := { nx := _, rt := Q, bk := _, ct := _ }) (ev_var rfl) (sq_of hpr7) (fun i σ' H' => ∃ vr, σ' = [some (.int k), some va, some (.ref pk), some vu, some (.ref pr), some (.ref pd), vr] ∧ Ex H H' ∧ H' pr = some (.lst rs) ∧ All2 (fun r u => TupAt K H' (rt r) u) (told k a) rs ∧ H' pd = some (.lst (([0, (unitOf k a).x, (unitOf k a).y, ((told k a).length : Int)] ++ ((told k a).take i).flatMap rowI).map V.int)))
      (fun H8 e8 => ⟨none, rfl, (e3.trans (e4.trans e46)).trans (e7.trans e8), e8 _ _ hpr7, hall.imp fun _ _ t => t.ex (e46.trans (e7.trans e8)), ?_⟩) (fun i σ' H' _ h => by obtain ⟨_, _, _, h, _⟩ := h; exact sq_of h) ?_ ?_
    · rw [e8 _ _ hpd, el]
      rfl
    · rintro i x σ' H8 hx ⟨vr, rfl, e8, h1, h2, h3⟩
      obtain ⟨r, hr1, hr2⟩ := h2.at hx
      refine' s_extL h3 (ev_var rfl) (el_listV rfl hr2) ?_ fun H9 e9 => ?_
      · simp only [List.length_map, List.length_append, List.length_flatMap]
        have : (List.map (fun r => (rowI r).length) ((told k a).take i)).sum ≤ 51 := by
          have : ∀ l : List (NZ × Nat), (List.map (fun r => (rowI r).length) l).sum = 3 * l.length := fun l => by
            induction l with
            | nil => rfl
            | cons y l ih => rw [List.map_cons, List.sum_cons, ih, List.length_cons]; show 3 + _ = _; omega
          rw [this, List.length_take]
          omega
        show _ + 3 ≤ 100000
        simp only [List.length_cons, List.length_nil]
        omega
      · have h39 := e9 _ _ h3
        refine ⟨_, rfl, Ex.mut (e8.trans e9) hbase, ?_, ?_, ?_⟩
        · rw [upd_ne npr.symm]
          exact e9 _ _ h1
        · exact h2.imp fun _ _ t => TupAt.upd (t.ex e9) h39
        · rw [upd_same, take_snoc hr1, List.flatMap_append, ← List.append_assoc, List.map_append (l₁ := _ ++ _)]
          simp [rt_rowI]
    · rintro σ' H8 ⟨vr, rfl, e8, h1, h2, h3⟩
      rw [el, List.take_length] at h3
      refine' s_ret (ev_var rfl) fun H9 e9 => q pd H9 hbase (e8.trans e9) (e9 _ _ h3)
/-! size_answer -/
theorem flat_len {α : Type} {f : α → List Int} {n : Nat} (h : ∀ a, (f a).length = n) : ∀ l : List α, (l.flatMap f).length = n * l.length
  | [] => rfl
  | a :: l => by rw [List.flatMap_cons, List.length_append, h a, flat_len h l, List.length_cons, Nat.mul_add, Nat.mul_one, Nat.add_comm]
def zI (z : NZ) : List Int := [z.x, z.y]
theorem zt_zI (z : NZ) : zt z = (zI z).map V.int := rfl
/-! size_answer -/
abbrev st_size_answer : Stmt := topS 27
theorem sc_size_answer : FnScope ["kind", "n", "found", "a", "told"] ["kind", "n"] (defScope st_size_answer) := ⟨rfl, rfl, rfl, by decide +kernel, rfl, by decide +kernel, by decide +kernel⟩
def D_sizeA (l : List Dt) (r : List Int) : Prop := ∃ (k n : Nat), k ≤ 1 ∧ l = [.v (.int (k : Int)), .v (.int (n : Int))] ∧ r = sizeOf k n
theorem ok_sizeA (F : Fun K "size_answer" "size_answer" st_size_answer f fd) (n_list : mg "list" = none) (n_len : mg "len" = none) (g_OUT_OF_RANGE : GlobV mg "OUT_OF_RANGE" (.int (-1))) (g_GREATEST_SIZE : GlobV mg "GREATEST_SIZE" (.int 1000))
    (d_size : Def P w K mg base "size" 1 ["kind", "a"] (spOf K D_size)) (d_first_part : Def P w K mg base "first_part" 2 ["kind", "most"] (spOf K D_fp)) : FnOk P w K mg base CX0 3 f fd ["kind", "n"] (spL K D_sizeA) := by
  refine okL_of F sc_size_answer (fun l r h => by obtain ⟨k, n, _, rfl, _⟩ := h; rfl) (fun cdv A outer s H vs Q E l r hr hd hA q => ?_)
  obtain ⟨k, n, hk, rfl, rfl⟩ := hd
  obtain ⟨_, _, rfl, rfl, rfl⟩ := all2_2 hA; clear hA
  refine ⟨_, (pss_cons (ps_if (PW.pt (pw_or (pt_cmpR op_lt (pv 1) pe_int (nomark _)) (pw_or1 (pt_cmpR op_gt (pv 1) (pe_gv g_GREATEST_SIZE (by rfl)) (nomark _))))) (pss_one (ps_ret (pe_lst (pa_cons (pe_gv g_OUT_OF_RANGE (by rfl)) pa_nil)))) pss_nil)
      (pss_cons (ps_setLc (i := 2) (own := [("a", 3)]) (g := gName 3) (tt := (tTest (tOp rEq (tCall (spOf K D_size) [] E0 (tCons (tVar 0) (tCons (tVar 3) tNil))) (tVar 1)))) (te := (tVar 3)) (by rfl) sc_size_answer.nd rfl rfl (sw_true rfl rfl rfl (by decide +kernel)) (pi_list (pe_cd d_first_part (hr.mono (by decide)) (by rfl) pass0 (pa_cons (pv 0) (pa_cons (pv 1) pa_nil)))) (blkOk_by (own := [("a", 3)]) (N := ["kind", "n", "found", "a", "told"]) (sc := defScope st_size_answer) (by decide +kernel)) (fun _ _ _ _ _ => pg_name (i := 3) sc_size_answer.nd rfl (Or.inl rfl)) (fun _ _ _ _ _ => (pts_one (pt_cmpR op_eq (pe_cd d_size (hr.mono (by decide)) (by rfl) pass0 (pa_cons (pv 0) (pa_cons (pv 3) pa_nil))) (pv 1) (nomark _)))) (fun _ _ _ _ _ => (pv 3)))
      (pss_cons (ps_set (i := 4) sc_size_answer.nd rfl (Or.inl rfl) (pe_lst (pa_cons (pe_callB call_len_seq (by rfl) n_len PySem.boot_len (pa_cons (pv 2) pa_nil)) pa_nil)))
      (pss_cons (ps_for PassesOwn.never rfl (pi_list (pv 2)) (pg_name (i := 3) sc_size_answer.nd rfl (Or.inl rfl)) (pss_one (ps_expr (pe_bm PySem.F.plainAttrs_list PySem.F.slot_list_extend PySem.F.type_list_extend mt_extend (pv 4) (pa_cons (pe_callTy call_list_of (by rfl) n_list (by decide +kernel) (pa_cons (pv 3) pa_nil)) pa_nil)))))
      (pss_one (ps_ret (pv 4))))))), ?_⟩
  refine' q_if (et_or (et_test (ev_op (ev_var rfl) ev_c rv_I0)) fun _ => et_test (ev_op (ev_var rfl) ev_c rv_I0)) (fun c H3 e3 => ?_) (fun c H3 e3 => ?_)
  · have c2 : n = 0 ∨ 1000 < n := by
      rcases Bool.or_eq_true _ _ ▸ c with c | c
      · have := of_decide_eq_true c; omega
      · have := of_decide_eq_true c; omega
    refine' s_retI (r := [-1]) (el_1 ev_c) fun p H5 hp e5 h => q p H5 (fresh_back e3 hp) (e3.trans e5) ?_
    unfold sizeOf
    rw [if_pos c2]
    exact h
  · have c2 : ¬ (n = 0 ∨ 1000 < n) := by
      obtain ⟨c, d⟩ := Bool.or_eq_false_iff.mp c
      have := of_decide_eq_false c
      have := of_decide_eq_false d
      omega
    clear c
    have eS : sizeOf k n = ((Na02.ofSize k n).length : Int) :: (Na02.ofSize k n).flatMap zI := by
      unfold sizeOf
      rw [if_neg c2]
      rfl
    rw [eS] at q
    dsimp only [tNext]
    have hlen := fpart_len (k := k) (n := n) (by omega)
    have bz : ∀ z ∈ fpart k n, Bd 1152921504606846976 z := fun z hz => (fpart_bd (by omega) hz).mono (by decide)
    refine' q_asgF (R := fun H z x => TupAt K H (zt z) x) (lc_filt (K := K) (L := fpart k n) (fun z => decide (Na02.norm k z = (n : Int))) (fun H z x => TupAt K H (zt z) x) ?hx ?hz (fun e h => h.ex e) (fun h r => r.upd h) ?hw ?ht ?he) fun p us H5 hp e5 hu ha => ?_
    case hx => exact x_call (ax_cons (x_s rfl) (ax_cons (x_s rfl) ax_nil)) ⟨k, n, hk, by omega, rfl, rfl⟩
    case hz => omega
    case hw => exact fun x => rfl
    case ht =>
      intro x z H4 e4 hz hzx
      exact et_test (ev_eqi (x_call (K := K) (ax_cons (x_s rfl) (ax_cons (x_var rfl hzx) ax_nil)) ⟨k, z, hk, bz z hz, rfl, rfl⟩).ev (ev_var rfl))
    case he =>
      intro x z H4 e4 hz hzx Q2 q2
      exact (x_var (K := K) (d := .z z) rfl hzx) H4 (Ex.refl _) _ q2
    have hll := Nat.le_trans (List.length_filter_le (fun z => decide (Na02.norm k z = (n : Int))) (fpart k n)) hlen
    rw [fpart_size (by omega)] at ha hll
    have el : us.length = (Na02.ofSize k n).length := ha.len
    refine' q_asgL (el_lst (ea_cons (ev_len (K := K) (ev_var rfl) (sq_of hu)) ea_nil) (by show 1 ≤ 100000; decide)) fun pd H7 npd e7 hpd => ?_
    have npr : pd ≠ p := fun z => by
      rw [z, hu] at npd
      cases npd
    have hbase : H pd = none := fresh_back (e3.trans e5) npd
    refine' q_forLn (K := K) (ev_var rfl) (sq_of (e7 _ _ hu)) (fun i σ' H' => ∃ vr, σ' = [some (.int k), some (.int n), some (.ref p), vr, some (.ref pd)] ∧ Ex H H' ∧ H' p = some (.lst us) ∧ All2 (fun z u => TupAt K H' (zt z) u) (Na02.ofSize k n) us ∧ H' pd = some (.lst ((((Na02.ofSize k n).length : Int) :: ((Na02.ofSize k n).take i).flatMap zI).map V.int)))
      (fun H8 e8 => ⟨none, rfl, (e3.trans e5).trans (e7.trans e8), (e7.trans e8) _ _ hu, ha.imp fun _ _ t => t.ex (e7.trans e8), ?_⟩) (fun i σ' H' _ h => by obtain ⟨_, _, _, h, _⟩ := h; exact sq_of h) ?_ ?_
    · rw [e8 _ _ hpd, el]
      rfl
    · rintro i x σ' H8 hx ⟨vr, rfl, e8, h1, h2, h3⟩
      obtain ⟨r, hr1, hr2⟩ := h2.at hx
      refine' s_extL h3 (ev_var rfl) (el_listV rfl hr2) ?_ fun H9 e9 => ?_
      · rw [List.length_map, List.length_cons, flat_len (n := 2) (fun _ => rfl), List.length_take]
        show _ + 2 ≤ 100000
        omega
      · have h39 := e9 _ _ h3
        refine ⟨_, rfl, Ex.mut (e8.trans e9) hbase, ?_, ?_, ?_⟩
        · rw [upd_ne npr.symm]
          exact e9 _ _ h1
        · exact h2.imp fun _ _ t => TupAt.upd (t.ex e9) h39
        · rw [upd_same, take_snoc hr1, List.flatMap_append, ← List.cons_append, List.map_append]
          simp [zt_zI]
    · rintro σ' H8 ⟨vr, rfl, e8, h1, h2, h3⟩
      rw [el, List.take_length] at h3
      refine' s_ret (ev_var rfl) fun H9 e9 => q pd H9 hbase (e8.trans e9) (e9 _ _ h3)
/-! pow_answer -/
abbrev st_pow_answer : Stmt := topS 28
theorem sc_pow_answer : FnScope ["kind", "a", "m", "e"] ["kind", "a", "m", "e"] (defScope st_pow_answer) := ⟨rfl, rfl, rfl, by decide +kernel, rfl, by decide +kernel, by decide +kernel⟩
def D_powA (l : List Dt) (r : List Int) : Prop := ∃ (k : Nat) (a m : NZ) (e : Nat), k ≤ 1 ∧ Bd 100 a ∧ Bd 100 m ∧ e ≤ 4294967295 ∧ l = [.v (.int (k : Int)), .z a, .z m, .v (.int (e : Int))] ∧ r = powOf k a m e
theorem ok_powA (F : Fun K "pow_answer" "pow_answer" st_pow_answer f fd) (g : Gs K mg pz pt t0 t1) (n_list : mg "list" = none) (g_IS_ZERO : GlobV mg "IS_ZERO" (.int (-6))) (d_rest : Def P w K mg base "rest" 3 ["kind", "a", "b"] (spOf K D_rest))
    (d_power : Def P w K mg base "power" 36 ["kind", "a", "m", "e"] (spOf K (D_power 33))) : FnOk P w K mg base CX0 37 f fd ["kind", "a", "m", "e"] (spL K D_powA) := by
  have g_ZERO := g.gz
  refine okL_of F sc_pow_answer (fun l r h => by obtain ⟨k, a, m, e, _, _, _, _, rfl, _⟩ := h; rfl) (fun cdv A outer s H vs Q E l r hr hd hA q => ?_)
  obtain ⟨k, a, m, e, hk, ba, bm, he, rfl, rfl⟩ := hd
  obtain ⟨_, va, vm, _, rfl, rfl, ha, hm, rfl⟩ := all2_4 hA; clear hA
  refine ⟨_, (pss_cons (ps_if (pt_cmpR (op_eqD hr.units) (pv 2) (pe_gv g_ZERO (by rfl)) (nomark _)) (pss_one (ps_ret (pe_lst (pa_cons (pe_gv g_IS_ZERO (by rfl)) pa_nil)))) pss_nil)
      (pss_one (ps_ret (pe_op op_cat (pe_lst (pa_cons pe_int pa_nil)) (pe_callTy call_list_of (by rfl) n_list (by decide +kernel) (pa_cons (pe_cd d_power (hr.mono (by decide)) (by rfl) pass0 (pa_cons (pv 0) (pa_cons (pe_cd d_rest (hr.mono (by decide)) (by rfl) pass0 (pa_cons (pv 0) (pa_cons (pv 1) (pa_cons (pv 2) pa_nil)))) (pa_cons (pv 2) (pa_cons (pv 3) pa_nil))))) pa_nil)))))), ?_⟩
  refine' q_if (et_test (ev_eqz (x_var rfl hm) (x_c (g.zero H)))) (fun c H3 e3 => ?_) (fun c H3 e3 => ?_)
  · have c2 := of_decide_eq_true c
    refine' s_retI (r := [-6]) (el_1 ev_c) fun p H5 hp e5 h => q p H5 (fresh_back e3 hp) (e3.trans e5) ?_
    unfold powOf
    rw [if_pos c2]
    exact h
  · have c2 := of_decide_eq_false c
    replace ha := IsA.ex e3 ha
    replace hm := IsA.ex e3 hm
    dsimp only [tNext]
    have he2 : e < 2 ^ 32 := by
      have : (2 : Nat) ^ 32 = 4294967296 := by decide
      omega
    refine' s_retL (el_cat (el_1 ev_c) (el_listT (K := K) (x_call (ax_cons (x_s rfl) (ax_cons (x_call (ax_cons (x_s rfl) (ax_cons (x_var rfl ha) (ax_cons (x_var rfl hm) ax_nil))) ⟨k, a, m, hk, ba.mono (by decide), bm.mono (by decide), c2, rfl, rfl⟩) (ax_cons (x_var rfl hm) (ax_cons (x_s rfl) ax_nil))))
      ⟨k, _, m, e, hk, bd_rest c2 bm, bm, c2, he2, rfl, rfl⟩)) (by show 3 ≤ 100000; decide)) fun p H5 hp e5 h => q p H5 (fresh_back e3 hp) (e3.trans e5) ?_
    unfold powOf
    rw [if_neg c2]
    exact h
/-! few -/
theorem x_took1 {σ : L2.St} {H : Hp} {ta : TE} {u : NZ} {l : List (NZ × Nat)} (h : EvX K ta σ H (.took u l)) : EvX K (tOp (rIxT K) ta (tC (.int 1))) σ H (.rows l) := fun H1 e Q q =>
  h H1 e _ fun v H2 e2 ⟨a, b, p, vs, ⟨t, et, ht⟩, _, eb, hp, hall⟩ => ⟨t, _, 1, _, et, rfl, ht, rfl, q _ H2 e2 ⟨p, vs, eb, hp, hall⟩⟩
theorem q_forRow {σ : L2.St} {H : Hp} {D : Ends} {tu tz : TS} {tl : TE} {j : Nat} {L : List (NZ × Nat)} (h : EvX K tl σ H (.rows L)) (Pv : Addr → List V → Nat → L2.St → Hp → Prop)
    (h0 : ∀ a us H1, Ex H H1 → H1 a = some (.lst us) → All2 (fun z u => TupAt K H1 (rt z) u) L us → Pv a us 0 σ H1) (hk : ∀ a us i σ' H', Pv a us i σ' H' → H' a = some (.lst us))
    (hs : ∀ a us i x σ' H', us.length = L.length → us[i]? = some x → Pv a us i σ' H' → tu { D with nx := Pv a us (i + 1), ct := Pv a us (i + 1), bk := tz D } (σ'.set j (some x)) H') (hd : ∀ a us σ' H', Pv a us L.length σ' H' → tz D σ' H') : tSeq (tFor (iList K tl) (gName j) tu) tz D σ H :=
  h H (Ex.refl H) _ fun v H1 e ⟨a, us, ev, ha, hall⟩ => ⟨a, ev, ⟨us, sq_of ha⟩, for_list (D := { D with nx := tz D }) (Pv a us) (h0 a us H1 e ha hall) (fun i σ' H' _ p => sq_of (hk a us i σ' H' p)) (fun i x σ' H' hi p => hs a us i x σ' H' hall.len hi p) (fun σ' H' p => hd a us σ' H' (hall.len ▸ p))⟩
theorem ev_row {σ : L2.St} {H : Hp} {i : Nat} {x : V} {r : NZ × Nat} (h : σ[i]? = some (some x)) (ht : TupAt K H (rt r) x) : Ev (tOp (rIxT K) (tVar i) (tC (.int 0))) σ H (.int r.1.x) ∧ Ev (tOp (rIxT K) (tVar i) (tC (.int 1))) σ H (.int r.1.y) := by
  obtain ⟨p, rfl, ht⟩ := ht
  exact ⟨ev_op (ev_var h) ev_c (rv_ixT ht rfl), ev_op (ev_var h) ev_c (rv_ixT ht rfl)⟩
/-! few -/
abbrev st_few : Stmt := topS 50
theorem sc_few : FnScope ["kind", "m", "told", "row", "n"] ["kind", "m"] (defScope st_few) := ⟨rfl, rfl, rfl, by decide +kernel, rfl, by decide +kernel, by decide +kernel⟩
def D_few (l : List Dt) (r : Dt) : Prop := ∃ (k : Nat) (a : NZ), k ≤ 1 ∧ Bd 100 a ∧ a ≠ Na02.zero ∧ l = [.v (.int (k : Int)), .z a] ∧ r = .v (.int (Na02.few k a : Int))
theorem ok_few (F : Fun K "few" "few" st_few f fd) (d_size : Def P w K mg base "size" 1 ["kind", "a"] (spOf K D_size)) (d_take_apart : Def P w K mg base "take_apart" 5 ["kind", "a"] (spOf K D_ta)) : FnOk P w K mg base CX0 6 f fd ["kind", "m"] (spOf K D_few) := by
  refine ok_of F sc_few (fun l r h => by obtain ⟨k, a, _, _, _, rfl, _⟩ := h; rfl) (fun cdv A outer s H vs Q E l r hr hd hA q => ?_)
  obtain ⟨k, a, hk, ba, na, rfl, rfl⟩ := hd
  obtain ⟨_, va, rfl, rfl, ha⟩ := all2_2 hA; clear hA
  have hn := norm_bd (k := k) ba
  have hn0 := norm_nonneg k a
  have eM : (((Na02.norm k a).toNat : Nat) : Int) = Na02.norm k a := by omega
  have hfew := few_told (k := k) na (by omega)
  obtain ⟨_, hrow⟩ := told_facts (k := k) na (by omega)
  refine ⟨_, (pss_cons (ps_set (i := 2) sc_few.nd rfl (Or.inl rfl) (pe_cd d_size (hr.mono (by decide)) (by rfl) pass0 (pa_cons (pv 0) (pa_cons (pv 1) pa_nil))))
      (pss_cons (ps_for PassesOwn.never rfl (pi_list (pe_ix ix_tup (pe_cd d_take_apart (hr.mono (by decide)) (by rfl) pass0 (pa_cons (pv 0) (pa_cons (pv 1) pa_nil))) pe_int (fun _ _ => rfl))) (pg_name (i := 3) sc_few.nd rfl (Or.inl rfl)) (pss_cons (ps_set (i := 4) sc_few.nd rfl (Or.inl rfl) (pe_cd d_size (hr.mono (by decide)) (by rfl) pass0 (pa_cons (pv 0) (pa_cons (pe_tup (pa_cons (pe_ix ix_tup (pv 3) pe_int (fun _ _ => rfl)) (pa_cons (pe_ix ix_tup (pv 3) pe_int (fun _ _ => rfl)) pa_nil))) pa_nil))))
      (pss_one (ps_set (i := 2) sc_few.nd rfl (Or.inl rfl) (pe_op op_mul (pe_op op_fdivN (pv 2) (pv 4)) (pe_op op_sub (pv 4) pe_int))))))
      (pss_one (ps_ret (pv 2))))), ?_⟩
  refine' q_asgX (K := K) (x_call (ax_cons (x_s rfl) (ax_cons (x_var rfl ha) ax_nil)) ⟨k, a, hk, ba.mono (by decide), rfl, rfl⟩) fun v H1 e1 h1 => ?_
  cases h1
  replace ha := IsA.ex e1 ha
  refine' q_forRow (K := K) (L := told k a) (x_took1 (x_call (ax_cons (x_s rfl) (ax_cons (x_var rfl ha) ax_nil)) ⟨k, a, hk, ba.mono (by decide), na, rfl, rfl⟩))
    (fun a0 us i σ' H' => ∃ vr vn, σ' = [some (.int k), some va, some (.int ((fewF k ((told k a).take i) (Na02.norm k a).toNat : Nat) : Int)), vr, vn] ∧ Ex H H' ∧ H' a0 = some (.lst us) ∧ All2 (fun z u => TupAt K H' (rt z) u) (told k a) us)
    (fun a0 us H2 e2 h2 h3 => ⟨none, none, ?_, e1.trans e2, h2, h3⟩) (fun a0 us i σ' H' h => by obtain ⟨_, _, _, _, h, _⟩ := h; exact h) ?_ ?_
  · show [some (V.int (k : Int)), some va, some (V.int (Na02.norm k a)), none, none] = [some (V.int (k : Int)), some va, some (V.int (((Na02.norm k a).toNat : Nat) : Int)), none, none]
    rw [eM]
  · rintro a0 us i x σ' H' hlen hx ⟨vr, vn, rfl, e2, h2, h3⟩
    obtain ⟨r, hr1, hr2⟩ := h3.at hx
    obtain ⟨r1, r2, r3⟩ := hrow r (List.mem_of_getElem? hr1)
    have bz : Bd 1152921504606846976 r.1 := (bd_norm (k := k) (B := 300) (by decide) (by omega)).mono (by decide)
    have ev := ev_row (K := K) (σ := [some (.int (k : Int)), some va, some (.int ((fewF k ((told k a).take i) (Na02.norm k a).toNat : Nat) : Int)), some x, vn]) (i := 3) rfl hr2
    refine' q_asgX (K := K) (x_call (ax_cons (x_s rfl) (ax_cons (x_tup2 ev.1 ev.2) ax_nil)) ⟨k, r.1, hk, bz, rfl, rfl⟩) fun v H4 e4 h4 => ?_
    cases h4
    have hle := fewF_le k ((told k a).take i) (Na02.norm k a).toNat
    refine' s_asg (ev_op (ev_op (ev_var rfl) (ev_var rfl) (rv_I (C := CDivN) (cdivn (by omega) (by omega)))) (ev_op (ev_var rfl) ev_c rv_I0) (rv_I (C := CMul) (Or.inr ⟨by omega, by omega⟩))) fun H5 e5 => ?_
    refine ⟨some x, some (.int (Na02.norm k r.1)), ?_, e2.trans (e4.trans e5), (e4.trans e5) _ _ h2, h3.imp fun _ _ t => t.ex (e4.trans e5)⟩
    have enn : Na02.norm k r.1 = ((nN k r : Nat) : Int) := by unfold nN; omega
    have e6 : ((fewF k ((told k a).take i) (Na02.norm k a).toNat : Nat) : Int).fdiv (Na02.norm k r.1) * (Na02.norm k r.1 - 1) = ((fewF k ((told k a).take (i + 1)) (Na02.norm k a).toNat : Nat) : Int) := by
      rw [take_snoc hr1, fewF_snoc, enn, Int.fdiv_eq_ediv_of_nonneg _ (by omega), Int.natCast_mul, Int.natCast_ediv]
      congr 1
      have : 1 ≤ nN k r := by omega
      omega
    rw [← e6]
    rfl
  · rintro a0 us σ' H' ⟨vr, vn, rfl, e2, h2, h3⟩
    refine' s_ret (ev_var rfl) fun H5 e5 => q _ H5 (e2.trans e5) ?_
    rw [List.take_length]
    show V.int _ = V.int _
    rw [hfew]
/-! few_answer -/
abbrev st_few_answer : Stmt := topS 29
theorem sc_few_answer : FnScope ["kind", "m"] ["kind", "m"] (defScope st_few_answer) := ⟨rfl, rfl, rfl, by decide +kernel, rfl, by decide +kernel, by decide +kernel⟩
def D_fewA (l : List Dt) (r : List Int) : Prop := ∃ (k : Nat) (a : NZ), k ≤ 1 ∧ Bd 100 a ∧ l = [.v (.int (k : Int)), .z a] ∧ r = if a = Na02.zero then [-6] else [(Na02.few k a : Int)]
theorem ok_fewA (F : Fun K "few_answer" "few_answer" st_few_answer f fd) (g : Gs K mg pz pt t0 t1) (g_IS_ZERO : GlobV mg "IS_ZERO" (.int (-6))) (d_few : Def P w K mg base "few" 6 ["kind", "m"] (spOf K D_few)) : FnOk P w K mg base CX0 7 f fd ["kind", "m"] (spL K D_fewA) := by
  have g_ZERO := g.gz
  refine okL_of F sc_few_answer (fun l r h => by obtain ⟨k, a, _, _, rfl, _⟩ := h; rfl) (fun cdv A outer s H vs Q E l r hr hd hA q => ?_)
  obtain ⟨k, a, hk, ba, rfl, rfl⟩ := hd
  obtain ⟨_, va, rfl, rfl, ha⟩ := all2_2 hA; clear hA
  refine ⟨_, (pss_cons (ps_if (pt_cmpR (op_eqD hr.units) (pv 1) (pe_gv g_ZERO (by rfl)) (nomark _)) (pss_one (ps_ret (pe_lst (pa_cons (pe_gv g_IS_ZERO (by rfl)) pa_nil)))) pss_nil)
      (pss_one (ps_ret (pe_lst (pa_cons (pe_cd d_few (hr.mono (by decide)) (by rfl) pass0 (pa_cons (pv 0) (pa_cons (pv 1) pa_nil))) pa_nil))))), ?_⟩
  refine' q_if (et_test (ev_eqz (x_var rfl ha) (x_c (g.zero H)))) (fun c H3 e3 => ?_) (fun c H3 e3 => ?_)
  · have c2 := of_decide_eq_true c
    refine' s_retI (r := [-6]) (el_1 ev_c) fun p H5 hp e5 h => q p H5 (fresh_back e3 hp) (e3.trans e5) ?_
    rw [if_pos c2]
    exact h
  · have c2 := of_decide_eq_false c
    replace ha := IsA.ex e3 ha
    dsimp only [tNext]
    refine' s_retI (r := [(Na02.few k a : Int)]) (el_1 (x_call (K := K) (ax_cons (x_s rfl) (ax_cons (x_var rfl ha) ax_nil)) ⟨k, a, hk, ba, c2, rfl, rfl⟩).ev) fun p H5 hp e5 h => q p H5 (fresh_back e3 hp) (e3.trans e5) ?_
    rw [if_neg c2]
    exact h
end
end PN
end
section
set_option Elab.async false
set_option maxRecDepth 100000
set_option maxHeartbeats 2000000
set_option linter.all false
namespace PN
open PySem PySem.Spec PyProof.Rows L2 Evl
section
variable {P : Program} {w : World} {K : PySem.W.Frag} {mg : Str → Option Value} {base : Heap} {f : Addr} {fd : FuncData} {pz pt t0 t1 : Addr}
theorem ev_b01 {σ : L2.St} {H : Hp} {t : TT} {b : Bool} (h : EvT t σ H b) : Ev (tIf t (tC (.int 1)) (tC (.int 0))) σ H (.int (if b = true then 1 else 0)) := by
  cases b with
  | true => exact ev_if h (fun _ => ev_c) (fun c => by cases c)
  | false => exact ev_if h (fun c => by cases c) (fun _ => ev_c)
/-- a new list of ints goes back -/
theorem s_retN {σ : L2.St} {H0 H : Hp} {te : TE} {D : Ends} {r r' : List Int} (h : EvL te σ H (r.map V.int)) (e : Ex H0 H) (er : r' = r) (k : ∀ p H1, H0 p = none → Ex H0 H1 → H1 p = some (.lst (r'.map V.int)) → D.rt (.ref p) H1) : tRet te D σ H :=
  s_retL h fun p H1 hp e1 h1 => k p H1 (fresh_back e hp) (e.trans e1) (er ▸ h1)
theorem el_shown {σ : L2.St} {H : Hp} {ta : TE} {a : NZ} (h : EvX K ta σ H (.z a)) : EvL (tOp rCat (tLst (tCons (tC (.int 0)) tNil)) (tCB (rListS K) (tCons ta tNil))) σ H ((Na02.shown a).map V.int) :=
  el_cat (el_1 ev_c) (el_listT h) (by show 3 ≤ 100000; decide)
/-! answer_of_one -/
abbrev st_answer_of_one : Stmt := topS 22
theorem sc_answer_of_one : FnScope ["kind", "call", "a"] ["kind", "call", "a"] (defScope st_answer_of_one) := ⟨rfl, rfl, rfl, by decide +kernel, rfl, by decide +kernel, by decide +kernel⟩
def D_one (l : List Dt) (r : List Int) : Prop := ∃ (k c : Nat) (a : NZ), k ≤ 1 ∧ Bd 100 a ∧ l = [.v (.int (k : Int)), .v (.int (c : Int)), .z a] ∧ r = oneOf k c a
theorem ok_one (F : Fun K "answer_of_one" "answer_of_one" st_answer_of_one f fd) (n_list : mg "list" = none) (g_APART : GlobV mg "APART" (.int 4)) (g_PRIME : GlobV mg "PRIME" (.int 5)) (g_FORM : GlobV mg "FORM" (.int 7)) (g_FEW : GlobV mg "FEW" (.int 10))
    (d_apart_answer : Def P w K mg base "apart_answer" 6 ["kind", "a"] (spL K D_apart)) (d_is_prime : Def P w K mg base "is_prime" 5 ["kind", "a"] (spOf K D_prime)) (d_form : Def P w K mg base "form" 2 ["kind", "a"] (spOf K D_form))
    (d_few_answer : Def P w K mg base "few_answer" 7 ["kind", "m"] (spL K D_fewA)) (d_size : Def P w K mg base "size" 1 ["kind", "a"] (spOf K D_size)) : FnOk P w K mg base CX0 8 f fd ["kind", "call", "a"] (spL K D_one) := by
  refine okL_of F sc_answer_of_one (fun l r h => by obtain ⟨k, c, a, _, _, rfl, _⟩ := h; rfl) (fun cdv A outer s H vs Q E l r hr hd hA q => ?_)
  obtain ⟨k, c, a, hk, ba, rfl, rfl⟩ := hd
  obtain ⟨_, _, va, rfl, rfl, rfl, ha⟩ := all2_3 hA; clear hA
  refine ⟨_, (pss_cons (ps_if (pt_cmpR op_eq (pv 1) (pe_gv g_APART (by rfl)) (nomark _)) (pss_one (ps_ret (pe_cd d_apart_answer (hr.mono (by decide)) (by rfl) pass0 (pa_cons (pv 0) (pa_cons (pv 2) pa_nil))))) pss_nil)
      (pss_cons (ps_if (pt_cmpR op_eq (pv 1) (pe_gv g_PRIME (by rfl)) (nomark _)) (pss_one (ps_ret (pe_lst (pa_cons (pe_ifExp (pt_val (pe_cd d_is_prime (hr.mono (by decide)) (by rfl) pass0 (pa_cons (pv 0) (pa_cons (pv 2) pa_nil)))) pe_int pe_int) pa_nil)))) pss_nil)
      (pss_cons (ps_if (pt_cmpR op_eq (pv 1) (pe_gv g_FORM (by rfl)) (nomark _)) (pss_one (ps_ret (pe_op op_cat (pe_lst (pa_cons pe_int pa_nil)) (pe_callTy call_list_of (by rfl) n_list (by decide +kernel) (pa_cons (pe_cd d_form (hr.mono (by decide)) (by rfl) pass0 (pa_cons (pv 0) (pa_cons (pv 2) pa_nil))) pa_nil))))) pss_nil)
      (pss_cons (ps_if (pt_cmpR op_eq (pv 1) (pe_gv g_FEW (by rfl)) (nomark _)) (pss_one (ps_ret (pe_cd d_few_answer (hr.mono (by decide)) (by rfl) pass0 (pa_cons (pv 0) (pa_cons (pv 2) pa_nil))))) pss_nil)
      (pss_one (ps_ret (pe_lst (pa_cons (pe_cd d_size (hr.mono (by decide)) (by rfl) pass0 (pa_cons (pv 0) (pa_cons (pv 2) pa_nil))) pa_nil)))))))), ?_⟩
  refine' q_if (et_test (ev_eqi (ev_var rfl) ev_c)) (fun c1 H1 e1 => ?_) (fun c1 H1 e1 => ?_)
  · have d1 : c = 4 := by have := of_decide_eq_true c1; omega
    replace ha := IsA.ex e1 ha
    exact s_retN (x_callL (K := K) (ax_cons (x_s rfl) (ax_cons (x_var rfl ha) ax_nil)) ⟨k, a, hk, ba, rfl, rfl⟩) e1 (by unfold oneOf; rw [if_pos d1]; rfl) q
  have d1 : ¬ c = 4 := by have := of_decide_eq_false c1; omega
  replace ha := IsA.ex e1 ha
  dsimp only [tNext]
  refine' q_if (et_test (ev_eqi (ev_var rfl) ev_c)) (fun c2 H2 e2 => ?_) (fun c2 H2 e2 => ?_)
  · have d2 : c = 5 := by have := of_decide_eq_true c2; omega
    replace ha := IsA.ex e2 ha
    exact s_retN (el_1 (ev_b01 (et_B (x_call (K := K) (ax_cons (x_s rfl) (ax_cons (x_var rfl ha) ax_nil)) ⟨k, a, hk, ba.mono (by decide), rfl, rfl⟩).ev))) (e1.trans e2) (by unfold oneOf; rw [if_neg d1, if_pos d2]) q
  have d2 : ¬ c = 5 := by have := of_decide_eq_false c2; omega
  replace ha := IsA.ex e2 ha
  dsimp only [tNext]
  refine' q_if (et_test (ev_eqi (ev_var rfl) ev_c)) (fun c3 H3 e3 => ?_) (fun c3 H3 e3 => ?_)
  · have d3 : c = 7 := by have := of_decide_eq_true c3; omega
    replace ha := IsA.ex e3 ha
    exact s_retN (el_shown (K := K) (x_call (ax_cons (x_s rfl) (ax_cons (x_var rfl ha) ax_nil)) ⟨k, a, hk, ba.mono (by decide), rfl, rfl⟩)) ((e1.trans e2).trans e3) (by unfold oneOf; rw [if_neg d1, if_neg d2, if_pos d3]) q
  have d3 : ¬ c = 7 := by have := of_decide_eq_false c3; omega
  replace ha := IsA.ex e3 ha
  dsimp only [tNext]
  refine' q_if (et_test (ev_eqi (ev_var rfl) ev_c)) (fun c4 H4 e4 => ?_) (fun c4 H4 e4 => ?_)
  · have d4 : c = 10 := by have := of_decide_eq_true c4; omega
    replace ha := IsA.ex e4 ha
    exact s_retN (x_callL (K := K) (ax_cons (x_s rfl) (ax_cons (x_var rfl ha) ax_nil)) ⟨k, a, hk, ba, rfl, rfl⟩) ((e1.trans e2).trans (e3.trans e4)) (by unfold oneOf; rw [if_neg d1, if_neg d2, if_neg d3, if_pos d4]) q
  have d4 : ¬ c = 10 := by have := of_decide_eq_false c4; omega
  replace ha := IsA.ex e4 ha
  dsimp only [tNext]
  exact s_retN (el_1 (x_call (K := K) (ax_cons (x_s rfl) (ax_cons (x_var rfl ha) ax_nil)) ⟨k, a, hk, ba.mono (by decide), rfl, rfl⟩).ev) ((e1.trans e2).trans (e3.trans e4)) (by unfold oneOf; rw [if_neg d1, if_neg d2, if_neg d3, if_neg d4]) q
/-! answer_of_two -/
abbrev st_answer_of_two : Stmt := topS 23
theorem sc_answer_of_two : FnScope ["kind", "call", "a", "b"] ["kind", "call", "a", "b"] (defScope st_answer_of_two) := ⟨rfl, rfl, rfl, by decide +kernel, rfl, by decide +kernel, by decide +kernel⟩
def D_two (l : List Dt) (r : List Int) : Prop := ∃ (k c : Nat) (a b : NZ), k ≤ 1 ∧ Bd 100 a ∧ Bd 100 b ∧ l = [.v (.int (k : Int)), .v (.int (c : Int)), .z a, .z b] ∧ r = twoOf k c a b
theorem ok_two (F : Fun K "answer_of_two" "answer_of_two" st_answer_of_two f fd) (n_list : mg "list" = none) (g_TIMES : GlobV mg "TIMES" (.int 1)) (g_DIVIDE : GlobV mg "DIVIDE" (.int 2))
    (d_times : Def P w K mg base "times" 1 ["kind", "a", "b"] (spOf K D_times)) (d_divide_answer : Def P w K mg base "divide_answer" 4 ["kind", "a", "b"] (spL K D_divide)) (d_common : Def P w K mg base "common" 4 ["kind", "a", "b"] (spOf K D_common)) : FnOk P w K mg base CX0 5 f fd ["kind", "call", "a", "b"] (spL K D_two) := by
  refine okL_of F sc_answer_of_two (fun l r h => by obtain ⟨k, c, a, b, _, _, _, rfl, _⟩ := h; rfl) (fun cdv A outer s H vs Q E l r hr hd hA q => ?_)
  obtain ⟨k, c, a, b, hk, ba, bb, rfl, rfl⟩ := hd
  obtain ⟨_, _, va, vb, rfl, rfl, rfl, ha, hb⟩ := all2_4 hA; clear hA
  refine ⟨_, (pss_cons (ps_if (pt_cmpR op_eq (pv 1) (pe_gv g_TIMES (by rfl)) (nomark _)) (pss_one (ps_ret (pe_op op_cat (pe_lst (pa_cons pe_int pa_nil)) (pe_callTy call_list_of (by rfl) n_list (by decide +kernel) (pa_cons (pe_cd d_times (hr.mono (by decide)) (by rfl) pass0 (pa_cons (pv 0) (pa_cons (pv 2) (pa_cons (pv 3) pa_nil)))) pa_nil))))) pss_nil)
      (pss_cons (ps_if (pt_cmpR op_eq (pv 1) (pe_gv g_DIVIDE (by rfl)) (nomark _)) (pss_one (ps_ret (pe_cd d_divide_answer (hr.mono (by decide)) (by rfl) pass0 (pa_cons (pv 0) (pa_cons (pv 2) (pa_cons (pv 3) pa_nil)))))) pss_nil)
      (pss_one (ps_ret (pe_op op_cat (pe_lst (pa_cons pe_int pa_nil)) (pe_callTy call_list_of (by rfl) n_list (by decide +kernel) (pa_cons (pe_cd d_common (hr.mono (by decide)) (by rfl) pass0 (pa_cons (pv 0) (pa_cons (pv 2) (pa_cons (pv 3) pa_nil)))) pa_nil))))))), ?_⟩
  refine' q_if (et_test (ev_eqi (ev_var rfl) ev_c)) (fun c1 H1 e1 => ?_) (fun c1 H1 e1 => ?_)
  · have d1 : c = 1 := by have := of_decide_eq_true c1; omega
    replace ha := IsA.ex e1 ha
    replace hb := IsA.ex e1 hb
    exact s_retN (el_shown (K := K) (x_call (ax_cons (x_s rfl) (ax_cons (x_var rfl ha) (ax_cons (x_var rfl hb) ax_nil))) ⟨k, a, b, hk, ba.mono (by decide), bb.mono (by decide), rfl, rfl⟩)) e1 (by unfold twoOf; rw [if_pos d1]) q
  have d1 : ¬ c = 1 := by have := of_decide_eq_false c1; omega
  replace ha := IsA.ex e1 ha
  replace hb := IsA.ex e1 hb
  dsimp only [tNext]
  refine' q_if (et_test (ev_eqi (ev_var rfl) ev_c)) (fun c2 H2 e2 => ?_) (fun c2 H2 e2 => ?_)
  · have d2 : c = 2 := by have := of_decide_eq_true c2; omega
    replace ha := IsA.ex e2 ha
    replace hb := IsA.ex e2 hb
    exact s_retN (x_callL (K := K) (ax_cons (x_s rfl) (ax_cons (x_var rfl ha) (ax_cons (x_var rfl hb) ax_nil))) ⟨k, a, b, hk, ba, bb, rfl, rfl⟩) (e1.trans e2) (by unfold twoOf; rw [if_neg d1, if_pos d2]) q
  have d2 : ¬ c = 2 := by have := of_decide_eq_false c2; omega
  replace ha := IsA.ex e2 ha
  replace hb := IsA.ex e2 hb
  dsimp only [tNext]
  exact s_retN (el_shown (K := K) (x_call (ax_cons (x_s rfl) (ax_cons (x_var rfl ha) (ax_cons (x_var rfl hb) ax_nil))) ⟨k, a, b, hk, ba.mono (by decide), bb.mono (by decide), rfl, rfl⟩)) (e1.trans e2) (by unfold twoOf; rw [if_neg d1, if_neg d2]) q
/-! answer -/
theorem x_at {σ : L2.St} {H : Hp} {i : Nat} {p : Addr} {L : List NZ} {us : List V} {j : Nat} {a : NZ} (h : σ[i]? = some (some (.ref p))) (hp : H p = some (.lst us)) (hall : All2 (fun z u => TupAt K H (zt z) u) L us) (hj : L[j]? = some a) : EvX K (tOp (rIxL K) (tVar i) (tC (.int (j : Int)))) σ H (.z a) := by
  have hlt : j < us.length := by rw [hall.len]; exact (List.getElem?_eq_some_iff.mp hj).1
  obtain ⟨b, hb, ht⟩ := hall.at (List.getElem?_eq_getElem hlt)
  rw [hj] at hb
  cases hb
  intro H1 e Q q
  exact ⟨_, h, p, us, (j : Int), us[j], rfl, rfl, sq_of (e _ _ hp), atI_nat (List.getElem?_eq_getElem hlt), q _ H1 (Ex.refl H1) (TupAt.ex e ht)⟩
theorem getD_at {α : Type} {l : List α} {j : Nat} {d : α} (h : j < l.length) : l[j]? = some (l.getD j d) := by
  rw [List.getD_eq_getElem?_getD, List.getElem?_eq_getElem h]
  rfl
/-- what one call answers: the specification's own word -/
def D_answer (l : List Dt) (r : List Int) : Prop := ∃ (k c n : Nat) (hs : List Nat), k ≤ 1 ∧ hN[c]? = some n ∧ hs.length = n ∧ (∀ m ∈ hs, m ≤ 4294967295) ∧ l = [.v (.int (k : Int)), .v (.int (c : Int)), .ints (nats hs)] ∧ r = (Na02Neutral.step ⟨k⟩ ((c : Int) :: nats hs)).2
/-! answer -/
abbrev st_answer : Stmt := topS 21
theorem sc_answer : FnScope ["kind", "call", "handed", "numbers"] ["kind", "call", "handed"] (defScope st_answer) := ⟨rfl, rfl, rfl, by decide +kernel, rfl, by decide +kernel, by decide +kernel⟩
theorem ok_answer (F : Fun K "answer" "answer" st_answer f fd) (n_len : mg "len" = none) (g_KIND : GlobV mg "KIND" (.int 0)) (g_SIZE : GlobV mg "SIZE" (.int 6)) (g_ALIKE : GlobV mg "ALIKE" (.int 8)) (g_POW : GlobV mg "POW" (.int 9)) (g_OUT_OF_RANGE : GlobV mg "OUT_OF_RANGE" (.int (-1)))
    (d_kind_answer : Def P w K mg base "kind_answer" 1 ["k"] (spL K D_kind)) (d_size_answer : Def P w K mg base "size_answer" 3 ["kind", "n"] (spL K D_sizeA)) (d_numbers_of : Def P w K mg base "numbers_of" 2 ["handed"] (spOf K D_numbers))
    (d_all_in_range : Def P w K mg base "all_in_range" 1 ["numbers"] (spOf K D_range)) (d_are_alike : Def P w K mg base "are_alike" 5 ["kind", "a", "b", "m"] (spOf K D_alike)) (d_pow_answer : Def P w K mg base "pow_answer" 37 ["kind", "a", "m", "e"] (spL K D_powA))
    (d_answer_of_one : Def P w K mg base "answer_of_one" 8 ["kind", "call", "a"] (spL K D_one)) (d_answer_of_two : Def P w K mg base "answer_of_two" 5 ["kind", "call", "a", "b"] (spL K D_two)) : FnOk P w K mg base CX0 38 f fd ["kind", "call", "handed"] (spL K D_answer) := by
  refine okL_of F sc_answer (fun l r h => by obtain ⟨k, c, n, hs, _, _, _, _, rfl, _⟩ := h; rfl) (fun cdv A outer s H vs Q E l r hr hd hA q => ?_)
  obtain ⟨k, c, n, hs, hk, hc, hl, hb, el, er⟩ := hd
  have er := er.trans (step_ans hc hl hb)
  subst el
  subst er
  obtain ⟨_, _, _, rfl, rfl, rfl, ⟨ph, rfl, hh⟩⟩ := all2_3 hA; clear hA
  have hc2 : c < 12 := (List.getElem?_eq_some_iff.mp hc).1
  have hlen : 1 ≤ hs.length ∧ hs.length ≤ 6 ∧ (c = 9 → 5 ≤ hs.length) ∧ (c = 8 → 6 ≤ hs.length) ∧ (c = 0 ∨ c = 6 ∨ 2 ≤ hs.length) := by
    rw [hl]
    have : c = 0 ∨ c = 1 ∨ c = 2 ∨ c = 3 ∨ c = 4 ∨ c = 5 ∨ c = 6 ∨ c = 7 ∨ c = 8 ∨ c = 9 ∨ c = 10 ∨ c = 11 := by omega
    rcases this with rfl | rfl | rfl | rfl | rfl | rfl | rfl | rfl | rfl | rfl | rfl | rfl <;> (simp [hN] at hc; subst hc; decide)
  obtain ⟨l1, l6, l9, l8, l2⟩ := hlen
  have at0 : (nats hs)[0]? = some ((hs.getD 0 0 : Nat) : Int) := by unfold nats; rw [List.getElem?_map, getD_at (d := 0) (by omega)]; rfl
  refine ⟨_, (pss_cons (ps_if (pt_cmpR op_eq (pv 1) (pe_gv g_KIND (by rfl)) (nomark _)) (pss_one (ps_ret (pe_cd d_kind_answer (hr.mono (by decide)) (by rfl) pass0 (pa_cons (pe_ix ix_list (pv 2) pe_int (fun _ _ => rfl)) pa_nil)))) pss_nil)
      (pss_cons (ps_if (pt_cmpR op_eq (pv 1) (pe_gv g_SIZE (by rfl)) (nomark _)) (pss_one (ps_ret (pe_cd d_size_answer (hr.mono (by decide)) (by rfl) pass0 (pa_cons (pv 0) (pa_cons (pe_ix ix_list (pv 2) pe_int (fun _ _ => rfl)) pa_nil))))) pss_nil)
      (pss_cons (ps_set (i := 3) sc_answer.nd rfl (Or.inl rfl) (pe_cd d_numbers_of (hr.mono (by decide)) (by rfl) pass0 (pa_cons (pv 2) pa_nil)))
      (pss_cons (ps_if (pt_not (pt_val (pe_cd d_all_in_range (hr.mono (by decide)) (by rfl) pass0 (pa_cons (pv 3) pa_nil)))) (pss_one (ps_ret (pe_lst (pa_cons (pe_gv g_OUT_OF_RANGE (by rfl)) pa_nil)))) pss_nil)
      (pss_cons (ps_if (pt_cmpR op_eq (pv 1) (pe_gv g_ALIKE (by rfl)) (nomark _)) (pss_one (ps_ret (pe_lst (pa_cons (pe_ifExp (pt_val (pe_cd d_are_alike (hr.mono (by decide)) (by rfl) pass0 (pa_cons (pv 0) (pa_cons (pe_ix ix_list (pv 3) pe_int (fun _ _ => rfl)) (pa_cons (pe_ix ix_list (pv 3) pe_int (fun _ _ => rfl)) (pa_cons (pe_ix ix_list (pv 3) pe_int (fun _ _ => rfl)) pa_nil)))))) pe_int pe_int) pa_nil)))) pss_nil)
      (pss_cons (ps_if (pt_cmpR op_eq (pv 1) (pe_gv g_POW (by rfl)) (nomark _)) (pss_one (ps_ret (pe_cd d_pow_answer (hr.mono (by decide)) (by rfl) pass0 (pa_cons (pv 0) (pa_cons (pe_ix ix_list (pv 3) pe_int (fun _ _ => rfl)) (pa_cons (pe_ix ix_list (pv 3) pe_int (fun _ _ => rfl)) (pa_cons (pe_ix ix_list (pv 2) pe_int (fun _ _ => rfl)) pa_nil))))))) pss_nil)
      (pss_cons (ps_if (pt_cmpR op_eq (pe_callB call_len_seq (by rfl) n_len PySem.boot_len (pa_cons (pv 3) pa_nil)) pe_int (nomark _)) (pss_one (ps_ret (pe_cd d_answer_of_one (hr.mono (by decide)) (by rfl) pass0 (pa_cons (pv 0) (pa_cons (pv 1) (pa_cons (pe_ix ix_list (pv 3) pe_int (fun _ _ => rfl)) pa_nil)))))) pss_nil)
      (pss_one (ps_ret (pe_cd d_answer_of_two (hr.mono (by decide)) (by rfl) pass0 (pa_cons (pv 0) (pa_cons (pv 1) (pa_cons (pe_ix ix_list (pv 3) pe_int (fun _ _ => rfl)) (pa_cons (pe_ix ix_list (pv 3) pe_int (fun _ _ => rfl)) pa_nil)))))))))))))), ?_⟩
  refine' q_if (et_test (ev_eqi (ev_var rfl) ev_c)) (fun c1 H1 e1 => ?_) (fun c1 H1 e1 => ?_)
  · have d1 : c = 0 := by have := of_decide_eq_true c1; omega
    exact s_retN (x_callL (K := K) (ax_cons (ev_x (ev_ixI (j := 0) rfl (e1 _ _ hh) ev_c at0)) ax_nil) ⟨_, rfl, rfl⟩) e1 (by unfold ansOf; rw [if_pos d1]; rfl) q
  have d1 : ¬ c = 0 := by have := of_decide_eq_false c1; omega
  have hh1 := e1 _ _ hh
  dsimp only [tNext]
  refine' q_if (et_test (ev_eqi (ev_var rfl) ev_c)) (fun c2 H2 e2 => ?_) (fun c2 H2 e2 => ?_)
  · have d2 : c = 6 := by have := of_decide_eq_true c2; omega
    exact s_retN (x_callL (K := K) (ax_cons (x_s rfl) (ax_cons (ev_x (ev_ixI (j := 0) rfl (e2 _ _ hh1) ev_c at0)) ax_nil)) ⟨k, _, hk, rfl, rfl⟩) (e1.trans e2) (by unfold ansOf; rw [if_neg d1, if_pos d2]) q
  have d2 : ¬ c = 6 := by have := of_decide_eq_false c2; omega
  have hh2 := e2 _ _ hh1
  have hhA : IsA K H2 (.ints (nats hs)) (.ref ph) := ⟨ph, rfl, hh2⟩
  dsimp only [tNext]
  refine' q_asgX (K := K) (x_call (ax_cons (x_var rfl hhA) ax_nil) ⟨hs, l1, by omega, rfl, rfl⟩) fun vn H3 e3 hn => ?_
  have e03 := (e1.trans e2).trans e3
  have hh3 := e3 _ _ hh2
  refine' q_if (et_not (et_B (x_call (K := K) (ax_cons (x_var rfl hn) ax_nil) ⟨pairs hs, rfl, rfl⟩).ev)) (fun c3 H4 e4 => ?_) (fun c3 H4 e4 => ?_)
  · have d3 : (pairs hs).all Na02.small = false := by simpa using c3
    exact s_retN (r := [-1]) (el_1 ev_c) (e03.trans e4) (by unfold ansOf; rw [if_neg d1, if_neg d2, if_pos d3]) q
  have d3 : (pairs hs).all Na02.small = true := by simpa using c3
  have d3' : ¬ (pairs hs).all Na02.small = false := by rw [d3]; decide
  have e04 := e03.trans e4
  have hh4 := e4 _ _ hh3
  obtain ⟨pn, us, rfl, hpn, hall⟩ := IsA.ex e4 hn
  have bdj : ∀ j, j < (pairs hs).length → Bd 100 ((pairs hs).getD j Na02.zero) := fun j hj => small_bd (List.all_eq_true.mp d3 _ (List.mem_of_getElem? (getD_at (d := Na02.zero) hj)))
  have plen := pairs_len hs
  clear hn c3
  dsimp only [tNext]
  refine' q_if (et_test (ev_eqi (ev_var rfl) ev_c)) (fun c4 H5 e5 => ?_) (fun c4 H5 e5 => ?_)
  · have d4 : c = 8 := by have := of_decide_eq_true c4; omega
    have l8' := l8 d4
    have hpn5 := e5 _ _ hpn
    have hall5 := hall.imp fun _ _ t => t.ex e5
    exact s_retN (el_1 (ev_b01 (et_B (x_call (K := K) (ax_cons (x_s rfl) (ax_cons (x_at (j := 0) rfl hpn5 hall5 (getD_at (d := Na02.zero) (by omega))) (ax_cons (x_at (j := 1) rfl hpn5 hall5 (getD_at (d := Na02.zero) (by omega))) (ax_cons (x_at (j := 2) rfl hpn5 hall5 (getD_at (d := Na02.zero) (by omega))) ax_nil))))
      ⟨k, _, _, _, hk, bdj 0 (by omega), bdj 1 (by omega), bdj 2 (by omega), rfl, rfl⟩).ev))) (e04.trans e5) (by unfold ansOf; rw [if_neg d1, if_neg d2, if_neg d3', if_pos d4]) q
  have d4 : ¬ c = 8 := by have := of_decide_eq_false c4; omega
  have hpn5 := e5 _ _ hpn
  have hall5 := hall.imp fun _ _ t => t.ex e5
  have e05 := e04.trans e5
  have hh5 := e5 _ _ hh4
  dsimp only [tNext]
  refine' q_if (et_test (ev_eqi (ev_var rfl) ev_c)) (fun c5 H6 e6 => ?_) (fun c5 H6 e6 => ?_)
  · have d5 : c = 9 := by have := of_decide_eq_true c5; omega
    have l9' := l9 d5
    have hpn6 := e6 _ _ hpn5
    have hall6 := hall5.imp fun _ _ t => t.ex e6
    have at4 : (nats hs)[4]? = some ((hs.getD 4 0 : Nat) : Int) := by unfold nats; rw [List.getElem?_map, getD_at (d := 0) (by omega)]; rfl
    exact s_retN (x_callL (K := K) (ax_cons (x_s rfl) (ax_cons (x_at (j := 0) rfl hpn6 hall6 (getD_at (d := Na02.zero) (by omega))) (ax_cons (x_at (j := 1) rfl hpn6 hall6 (getD_at (d := Na02.zero) (by omega))) (ax_cons (ev_x (ev_ixI (j := 4) rfl (e6 _ _ hh5) ev_c at4)) ax_nil))))
      ⟨k, _, _, _, hk, bdj 0 (by omega), bdj 1 (by omega), hb _ (List.mem_of_getElem? (getD_at (d := 0) (by omega))), rfl, rfl⟩) (e05.trans e6) (by unfold ansOf; rw [if_neg d1, if_neg d2, if_neg d3', if_neg d4, if_pos d5]) q
  have d5 : ¬ c = 9 := by have := of_decide_eq_false c5; omega
  have hpn6 := e6 _ _ hpn5
  have hall6 := hall5.imp fun _ _ t => t.ex e6
  have e06 := e05.trans e6
  dsimp only [tNext]
  have elv := ev_len (K := K) (σ := [some (.int (k : Int)), some (.int (c : Int)), some (.ref ph), some (.ref pn)]) (ta := tVar 3) (ev_var rfl) (sq_of hpn6)
  rw [hall6.len] at elv
  refine' q_if (et_test (ev_eqi elv ev_c)) (fun c6 H7 e7 => ?_) (fun c6 H7 e7 => ?_)
  · have d6 : (pairs hs).length = 1 := by have := of_decide_eq_true c6; omega
    have hpn7 := e7 _ _ hpn6
    have hall7 := hall6.imp fun _ _ t => t.ex e7
    exact s_retN (x_callL (K := K) (ax_cons (x_s rfl) (ax_cons (x_s rfl) (ax_cons (x_at (j := 0) rfl hpn7 hall7 (getD_at (d := Na02.zero) (by omega))) ax_nil))) ⟨k, c, _, hk, bdj 0 (by omega), rfl, rfl⟩) (e06.trans e7) (by unfold ansOf; rw [if_neg d1, if_neg d2, if_neg d3', if_neg d4, if_neg d5, if_pos d6]) q
  have d6 : ¬ (pairs hs).length = 1 := by have := of_decide_eq_false c6; omega
  have hpn7 := e7 _ _ hpn6
  have hall7 := hall6.imp fun _ _ t => t.ex e7
  have lp : 2 ≤ (pairs hs).length := by omega
  dsimp only [tNext]
  exact s_retN (x_callL (K := K) (ax_cons (x_s rfl) (ax_cons (x_s rfl) (ax_cons (x_at (j := 0) rfl hpn7 hall7 (getD_at (d := Na02.zero) (by omega))) (ax_cons (x_at (j := 1) rfl hpn7 hall7 (getD_at (d := Na02.zero) (by omega))) ax_nil)))) ⟨k, c, _, _, hk, bdj 0 (by omega), bdj 1 (by omega), rfl, rfl⟩) (e06.trans e7) (by unfold ansOf; rw [if_neg d1, if_neg d2, if_neg d3', if_neg d4, if_neg d5, if_neg d6]) q
end
end PN
end
section
set_option Elab.async false
set_option maxRecDepth 100000
set_option maxHeartbeats 2000000
set_option linter.all false
namespace PN
open PySem PySem.Spec PyProof.Rows L2 Evl
section
variable {P : Program} {w : World} {K : PySem.W.Frag} {mg : Str → Option Value} {base : Heap} {f : Addr} {fd : FuncData} {pz pt t0 t1 : Addr}
theorem s_appW {σ : L2.St} {H : Hp} {ta te : TE} {D : Ends} {l : Addr} {xs : List V} {v : V} (hl : H l = some (.lst xs)) (ha : Ev ta σ H (.ref l)) (h : Ev te σ H v) (hz : xs.length < sizeLine) (k : ∀ H1, Ex H H1 → D.nx σ (upd H1 l (.lst (xs ++ [v])))) :
    tDrop (tBM K "list" rAppend ta (tCons te tNil)) D σ H := ha H (Ex.refl H) _ fun H1 e1 =>
  ⟨Or.inl ⟨rfl, xs, sq_of (e1 l _ hl)⟩, h H1 e1 _ fun H2 e2 => ⟨l, xs, v, rfl, rfl, e2 l _ (e1 l _ hl), hz, k H2 (e1.trans e2)⟩⟩
theorem s_extW {σ : L2.St} {H : Hp} {ta te : TE} {D : Ends} {l b : Addr} {xs ys : List V} (hl : H l = some (.lst xs)) (hb : H b = some (.lst ys)) (ha : Ev ta σ H (.ref l)) (h : Ev te σ H (.ref b)) (hz : xs.length + ys.length ≤ sizeLine) (k : ∀ H1, Ex H H1 → D.nx σ (upd H1 l (.lst (xs ++ ys)))) :
    tDrop (tBM K "list" rExtend ta (tCons te tNil)) D σ H := ha H (Ex.refl H) _ fun H1 e1 =>
  ⟨Or.inl ⟨rfl, xs, sq_of (e1 l _ hl)⟩, h H1 e1 _ fun H2 e2 => ⟨l, b, xs, ys, rfl, rfl, e2 l _ (e1 l _ hl), e2 _ _ (e1 _ _ hb), hz, k H2 (e1.trans e2)⟩⟩
theorem q_appW {σ : L2.St} {H : Hp} {ta te : TE} {D : Ends} {tz : TS} {l : Addr} {xs : List V} {v : V} (hl : H l = some (.lst xs)) (ha : Ev ta σ H (.ref l)) (h : Ev te σ H v) (hz : xs.length < sizeLine) (k : ∀ H1, Ex H H1 → tz D σ (upd H1 l (.lst (xs ++ [v])))) :
    tSeq (tDrop (tBM K "list" rAppend ta (tCons te tNil))) tz D σ H := s_appW (D := { D with nx := tz D }) hl ha h hz k
theorem q_extW {σ : L2.St} {H : Hp} {ta te : TE} {D : Ends} {tz : TS} {l b : Addr} {xs ys : List V} (hl : H l = some (.lst xs)) (hb : H b = some (.lst ys)) (ha : Ev ta σ H (.ref l)) (h : Ev te σ H (.ref b)) (hz : xs.length + ys.length ≤ sizeLine) (k : ∀ H1, Ex H H1 → tz D σ (upd H1 l (.lst (xs ++ ys)))) :
    tSeq (tDrop (tBM K "list" rExtend ta (tCons te tNil))) tz D σ H := s_extW (D := { D with nx := tz D }) hl hb ha h hz k
theorem ev_ixS {σ : L2.St} {H : Hp} {i : Nat} {ti : TE} {p : Addr} {l : List Int} {j : Nat} {n : Int} (h : σ[i]? = some (some (.ref p))) (hp : SqL K H p (l.map V.int)) (hi : Ev ti σ H (.int (j : Int))) (hj : l[j]? = some n) : Ev (tOp (rIxL K) (tVar i) ti) σ H (.int n) :=
  ev_op (ev_var h) hi (rv_ixL hp (atI_nat (by rw [List.getElem?_map, hj]; rfl)))
theorem cut_nat {xs : List V} {i j : Nat} (h1 : i ≤ j) (h2 : j ≤ xs.length) : cutV xs (some (i : Int)) (some (j : Int)) = (xs.drop i).take (j - i) := by
  unfold cutV
  rw [HT.sIx_nat, HT.sIx_nat, Nat.min_eq_left h2, Nat.min_eq_left (Nat.le_trans h1 h2)]
/-! answers -/
abbrev st_answers : Stmt := topS 20
theorem sc_answers : FnScope ["calls", "given", "kind", "at", "call", "end", "handed", "told"] ["calls"] (defScope st_answers) := ⟨rfl, rfl, rfl, by decide +kernel, rfl, by decide +kernel, by decide +kernel⟩
def spAns (K : PySem.W.Frag) : Sp := fun vs H Q _ => ∃ (a : Addr) (ns : List Int), vs = [.ref a] ∧ SqL K H a (ns.map V.int) ∧ ns.length ≤ 220 ∧ (∀ x ∈ ns, 0 ≤ x ∧ x ≤ 4294967295) ∧ PyNa02.answers_asked ns = true ∧
  ∀ (H' : Hp) (p : Addr), H' p = some (.lst ((PyNa02.answers ns).map V.int)) → Q (.ref p) H'
theorem ok_answers {ph : Addr} (F : Fun K "answers" "answers" st_answers f fd) (n_len : mg "len" = none) (g_KIND : GlobV mg "KIND" (.int 0)) (g_HANDED : GlobV mg "HANDED" (.ref ph)) (kh : KT K ph (hN.map fun (n : Nat) => V.int (n : Int)))
    (d_answer : Def P w K mg base "answer" 38 ["kind", "call", "handed"] (spL K D_answer)) : FnOk P w K mg base CX0 39 f fd ["calls"] (spAns K) := by
  refine F.ok sc_answers (fun vs H Q E h => ?_) (fun cdv A outer s H vs Q E hr h => ?_)
  · obtain ⟨a, ns, rfl, _⟩ := h
    rfl
  obtain ⟨pc, ns, rfl, hS, h220, hbd, hask, q⟩ := h
  obtain ⟨hrem, hmax⟩ := rem_start hask
  refine ⟨_, (pss_cons (ps_set (i := 1) sc_answers.nd rfl (Or.inl rfl) (pe_lst pa_nil))
      (pss_cons (ps_set (i := 2) sc_answers.nd rfl (Or.inl rfl) pe_int)
      (pss_cons (ps_set (i := 3) sc_answers.nd rfl (Or.inl rfl) pe_int)
      (pss_cons (ps_while PassesOwn.never (pt_cmpR op_lt (pv 3) (pe_callB call_len_seq (by rfl) n_len PySem.boot_len (pa_cons (pv 0) pa_nil)) (nomark _)) (pss_cons (ps_set (i := 4) sc_answers.nd rfl (Or.inl rfl) (pe_ix ix_list (pv 0) (pv 3) (fun _ _ => rfl)))
      (pss_cons (ps_set (i := 5) sc_answers.nd rfl (Or.inl rfl) (pe_op op_add (pe_op op_add (pv 3) pe_int) (pe_ix ix_tup (pe_gv g_HANDED (by rfl)) (pv 4) (fun _ _ => rfl))))
      (pss_cons (ps_set (i := 6) sc_answers.nd rfl (Or.inl rfl) (pe_slice sl_list (pv 0) (po_some (pe_op op_add (pv 3) pe_int)) (po_some (pv 5))))
      (pss_cons (ps_set (i := 7) sc_answers.nd rfl (Or.inl rfl) (pe_cd d_answer (hr.mono (by decide)) (by rfl) pass0 (pa_cons (pv 2) (pa_cons (pv 4) (pa_cons (pv 6) pa_nil)))))
      (pss_cons (ps_if (PW.pt (pw_and (pt_cmpR op_eq (pv 4) (pe_gv g_KIND (by rfl)) (nomark _)) (pw_and1 (pt_cmpR op_ge (pe_ix ix_list (pv 7) pe_int (fun _ _ => rfl)) pe_int (nomark _))))) (pss_one (ps_set (i := 2) sc_answers.nd rfl (Or.inl rfl) (pe_ix ix_list (pv 6) pe_int (fun _ _ => rfl)))) pss_nil)
      (pss_cons (ps_expr (pe_bm PySem.F.plainAttrs_list PySem.F.slot_list_append PySem.F.type_list_append mt_append (pv 1) (pa_cons (pe_callB call_len_seq (by rfl) n_len PySem.boot_len (pa_cons (pv 7) pa_nil)) pa_nil)))
      (pss_cons (ps_expr (pe_bm PySem.F.plainAttrs_list PySem.F.slot_list_extend PySem.F.type_list_extend mt_extend (pv 1) (pa_cons (pv 7) pa_nil)))
      (pss_one (ps_set (i := 3) sc_answers.nd rfl (Or.inl rfl) (pv 5)))))))))))
      (pss_one (ps_ret (pv 1))))))), ?_⟩
  refine' q_asgL (el_lst ea_nil (by decide)) fun pg H1 npg e1 hpg => ?_
  refine' q_asg ev_c fun H2 e2 => ?_
  refine' q_asg ev_c fun H3 e3 => ?_
  refine' q_while (fun m σ' H' => ∃ (i k : Nat) (given : List Int) (v4 v5 v6 v7 : Option V), σ' = [some (.ref pc), some (.ref pg), some (.int (k : Int)), some (.int (i : Int)), v4, v5, v6, v7] ∧ Ex H H' ∧ H' pg = some (.lst (given.map V.int)) ∧ k ≤ 1 ∧ i ≤ ns.length ∧ Rem ⟨k⟩ (ns.drop i) given (PyNa02.answers ns) ∧ m = ns.length - i) _
    ⟨0, 0, [], none, none, none, none, rfl, e1.trans (e2.trans e3), (e2.trans e3) _ _ hpg, by omega, by omega, hrem, rfl⟩ ?_
  rintro m σ' H4 ⟨i, k, given, v4, v5, v6, v7, rfl, e4, hg, hk, hi, hrem, rfl⟩
  have hS4 := ex_l e4 hS
  have elen := ev_len (K := K) (σ := [some (.ref pc), some (.ref pg), some (.int (k : Int)), some (.int (i : Int)), v4, v5, v6, v7]) (ta := tVar 0) (ev_var rfl) hS4
  rw [List.length_map] at elen
  refine' ⟨_, et_test (ev_op (ev_var rfl) elen rv_I0), fun c H5 e5 => ?_, fun c H5 e5 => ?_⟩
  · have c2 : i < ns.length := by have := of_decide_eq_true c; omega
    clear elen c
    have ed : ns.drop i = ns[i] :: ns.drop (i + 1) := List.drop_eq_getElem_cons c2
    rw [ed] at hrem
    obtain ⟨cc, n, ep, hn, hnl, hrem⟩ := rem_cons hrem
    rw [List.length_drop] at hnl
    obtain ⟨hs, ehs, lhs⟩ := nats_of (l := (ns.drop (i + 1)).take n) fun x hx => (hbd x (List.mem_of_mem_drop (List.mem_of_mem_take hx))).1
    have lhs2 : hs.length = n := by rw [lhs, List.length_take, List.length_drop]; omega
    have hb2 : ∀ m ∈ hs, m ≤ 4294967295 := fun m hm => by
      have hx : (m : Int) ∈ (ns.drop (i + 1)).take n := by rw [ehs]; exact List.mem_map.mpr ⟨m, hm, rfl⟩
      have := (hbd _ (List.mem_of_mem_drop (List.mem_of_mem_take hx))).2
      omega
    have eix : ns[i]? = some (cc : Int) := by rw [List.getElem?_eq_getElem c2, ep]
    have ehn : (hN.map fun (n : Nat) => V.int (n : Int))[cc]? = some (V.int (n : Int)) := by rw [List.getElem?_map, hn]; rfl
    rw [ep, ehs] at hrem
    refine ⟨fun σ' H' => ∃ m', m' < ns.length - i ∧ ∃ (i k : Nat) (given : List Int) (v4 v5 v6 v7 : Option V), σ' = [some (.ref pc), some (.ref pg), some (.int (k : Int)), some (.int (i : Int)), v4, v5, v6, v7] ∧ Ex H H' ∧ H' pg = some (.lst (given.map V.int)) ∧ k ≤ 1 ∧ i ≤ ns.length ∧ Rem ⟨k⟩ (ns.drop i) given (PyNa02.answers ns) ∧ m' = ns.length - i, fun _ _ h => h, ?_⟩
    have hS5 := ex_l e5 hS4
    refine' q_asg (ev_ixS rfl hS5 (ev_var rfl) eix) fun H6 e6 => ?_
    refine' q_asg (ev_op (ev_op (ev_var rfl) ev_c rv_I0) (ev_op ev_c (ev_var rfl) (rv_ixT (kh.sq H6) (atI_nat ehn))) rv_I0) fun H7 e7 => ?_
    have e57 := e6.trans e7
    have hS7 := ex_l e57 hS5
    have eend : (i : Int) + 1 + (n : Int) = ((i + 1 + n : Nat) : Int) := by omega
    rw [eend]
    refine' q_asgL (el_sl (K := K) (ev_var rfl) (eo_some (ev_is (ev_op (ev_var rfl) ev_c rv_I0) (show V.int ((i : Int) + 1) = V.int ((i + 1 : Nat) : Int) from rfl))) (eo_some (ev_var rfl)) hS7) fun ph H8 nph e8 hph => ?_
    have ecut : cutV (ns.map V.int) (some ((i + 1 : Nat) : Int)) (some ((i + 1 + n : Nat) : Int)) = (nats hs).map V.int := by
      rw [cut_nat (by omega) (by rw [List.length_map]; omega), Nat.add_sub_cancel_left, ← List.map_drop, ← List.map_take, ehs]
    rw [ecut] at hph
    have hhd : IsA K H8 (.ints (nats hs)) (.ref ph) := ⟨ph, rfl, hph⟩
    refine' q_asgL (x_callL (K := K) (ax_cons (x_s rfl) (ax_cons (x_s rfl) (ax_cons (x_var rfl hhd) ax_nil))) ⟨k, cc, n, hs, hk, hn, lhs2, hb2, rfl, rfl⟩) fun pa H9 npa e9 hpa => ?_
    have e49 : Ex H4 H9 := e5.trans (e57.trans (e8.trans e9))
    have hg9 := e49 _ _ hg
    have npg9 : pa ≠ pg := fun z => by
      rw [z, (e5.trans (e57.trans e8)) _ _ hg] at npa
      cases npa
    generalize eans : Na02Neutral.step ⟨k⟩ ((cc : Int) :: nats hs) = st at *
    have hrl := rem_len hrem
    rw [List.length_append, List.length_cons] at hrl
    have hsz : (10000001 : Nat) < sizeLine := by decide +kernel
    -- the tail, whatever the kind is then
    have tail : ∀ (k' : Nat) (H10 : Hp), k' ≤ 1 → st.1 = ⟨k'⟩ → Ex H9 H10 → tSeq (tDrop (tBM K "list" rAppend (tVar 1) (tCons (tCB (rLenS K) (tCons (tVar 7) tNil)) tNil))) (tSeq (tDrop (tBM K "list" rExtend (tVar 1) (tCons (tVar 7) tNil))) (tAsg (tVar 5) (gName 3)))
        { nx := fun σ' H' => ∃ m', m' < ns.length - i ∧ ∃ (i k : Nat) (given : List Int) (v4 v5 v6 v7 : Option V), σ' = [some (.ref pc), some (.ref pg), some (.int (k : Int)), some (.int (i : Int)), v4, v5, v6, v7] ∧ Ex H H' ∧ H' pg = some (.lst (given.map V.int)) ∧ k ≤ 1 ∧ i ≤ ns.length ∧ Rem ⟨k⟩ (ns.drop i) given (PyNa02.answers ns) ∧ m' = ns.length - i,
          rt := Q, bk := tRet (tVar 1) { nx := fun x H' => Q V.non H', rt := Q }, ct := fun σ' H' => ∃ m', m' < ns.length - i ∧ ∃ (i k : Nat) (given : List Int) (v4 v5 v6 v7 : Option V), σ' = [some (.ref pc), some (.ref pg), some (.int (k : Int)), some (.int (i : Int)), v4, v5, v6, v7] ∧ Ex H H' ∧ H' pg = some (.lst (given.map V.int)) ∧ k ≤ 1 ∧ i ≤ ns.length ∧ Rem ⟨k⟩ (ns.drop i) given (PyNa02.answers ns) ∧ m' = ns.length - i }
        [some (.ref pc), some (.ref pg), some (.int (k' : Int)), some (.int (i : Int)), some (.int (cc : Int)), some (.int ((i + 1 + n : Nat) : Int)), some (.ref ph), some (.ref pa)] H10 := by
      intro k' H10 hk' est e10
      refine' q_appW (e10 _ _ hg9) (ev_var rfl) (ev_len (K := K) (ev_var rfl) (sq_of (e10 _ _ hpa))) (by rw [List.length_map]; omega) fun H11 e11 => ?_
      have hpa11 : (upd H11 pg (.lst (given.map V.int ++ [V.int ((st.2.map V.int).length : Int)]))) pa = some (.lst (st.2.map V.int)) := by
        rw [upd_ne npg9]
        exact e11 _ _ (e10 _ _ hpa)
      refine' q_extW upd_same hpa11 (ev_var rfl) (ev_var rfl) (by simp only [List.length_append, List.length_map, List.length_cons, List.length_nil]; omega) fun H12 e12 => ?_
      refine' s_asg (ev_var rfl) fun H13 e13 => ?_
      refine ⟨_, ?_, i + 1 + n, k', given ++ ((st.2.length : Int) :: st.2), _, _, _, _, rfl, ?_, ?_, hk', by omega, ?_, rfl⟩
      · omega
      · exact (Ex.mut ((Ex.mut (e4.trans (e49.trans (e10.trans e11))) npg).trans e12) npg).trans e13
      · refine e13 _ _ (upd_same.trans ?_)
        simp
      · rw [List.drop_drop] at hrem
        rw [← est]
        exact hrem
    by_cases hc0 : cc = 0
    · subst hc0
      have hn1 : n = 1 := by simp [hN] at hn; exact hn.symm
      subst hn1
      have one : ∀ l : List Nat, l.length = 1 → ∃ x, l = [x] := fun l hl => match l, hl with | [x], _ => ⟨x, rfl⟩
      obtain ⟨h0, rfl⟩ := one hs lhs2
      have hb0 : h0 ≤ 4294967295 := hb2 h0 (List.mem_singleton.mpr rfl)
      rw [step_kind hb0] at eans
      by_cases hh : 1 < h0
      · rw [if_pos hh] at eans
        subst eans
        refine' q_if (et_and (et_test (ev_eqi (ev_var rfl) ev_c)) fun _ => et_test (ev_op (ev_ixI (j := 0) (n := -1) rfl hpa ev_c rfl) ev_c rv_I0)) (fun cc H10 e10 => ?_) (fun cc H10 e10 => ?_)
        · cases cc
        · exact tail k H10 hk rfl e10
      · rw [if_neg hh] at eans
        subst eans
        refine' q_if (et_and (et_test (ev_eqi (ev_var rfl) ev_c)) fun _ => et_test (ev_op (ev_ixI (j := 0) (n := ((Na02.units h0).length : Int)) rfl hpa ev_c rfl) ev_c rv_I0)) (fun cc H10 e10 => ?_) (fun cc H10 e10 => ?_)
        · refine' s_asg (ev_ixI (j := 0) (n := (h0 : Int)) rfl ((e9.trans e10) _ _ hph) ev_c rfl) fun H11 e11 => ?_
          exact tail h0 H11 (by omega) rfl (e10.trans e11)
        · exfalso
          have h01 : h0 = 0 ∨ h0 = 1 := by omega
          rcases h01 with rfl | rfl <;> cases cc
    · have est := step_state (k := k) hn hc0 lhs2 hb2
      rw [eans] at est
      refine' q_if (b := false) (et_is (et_and (a := decide ((cc : Int) = 0)) (b := true) (et_test (ev_eqi (ev_var rfl) ev_c)) fun h => absurd (of_decide_eq_true h) (by omega)) (by rw [Bool.and_true]; exact decide_eq_false (by omega))) (fun cc H10 e10 => by cases cc) (fun cc H10 e10 => ?_)
      exact tail k H10 hk est e10
  · have c2 : i = ns.length := by have := of_decide_eq_false c; omega
    rw [c2, List.drop_length] at hrem
    have eg := rem_nil hrem
    subst eg
    refine' s_ret (ev_var rfl) fun H6 e6 => q H6 pg ((e5.trans e6) _ _ hg)
end
end PN
end
section
set_option Elab.async false
set_option maxRecDepth 100000
set_option maxHeartbeats 2000000
set_option linter.all false
namespace PN
open PySem PySem.Spec PyProof.Rows L2 Evl
theorem globI {K : PySem.W.Frag} {h : Heap} {mg : Str → Option Value} (X : K.In h) (G : h.Ns mainGlobals mg) {x : Str} {n : Int} {t : Tok} (a : PySem.W.nsIn K mainGlobals x = some (some (.int n t))) : GlobV mg x (.int n) := ⟨_, PySem.W.mg_of X G a, ⟨_, rfl⟩⟩
theorem globR {K : PySem.W.Frag} {h : Heap} {mg : Str → Option Value} (X : K.In h) (G : h.Ns mainGlobals mg) {x : Str} {p : Addr} (a : PySem.W.nsIn K mainGlobals x = some (some (.ref p))) : GlobV mg x (.ref p) := ⟨_, PySem.W.mg_of X G a, rfl⟩
theorem all_mk {P : Program} {w : World} {K : PySem.W.Frag} {h : Heap} {mg : Str → Option Value} {fa : Addr} (X : K.In h) (G : h.Ns mainGlobals mg) (hfa : mg "answers" = some (.ref fa))
    {f1 : Addr} {od1 an1 : Option Addr} {sl1 : Array (Option Value)} {oc1 kV1 dc1 pm1 cd1 ct1 : Value}
    {f2 : Addr} {od2 an2 : Option Addr} {sl2 : Array (Option Value)} {oc2 kV2 dc2 pm2 cd2 ct2 : Value}
    {f3 : Addr} {od3 an3 : Option Addr} {sl3 : Array (Option Value)} {oc3 kV3 dc3 pm3 cd3 ct3 : Value}
    {f4 : Addr} {od4 an4 : Option Addr} {sl4 : Array (Option Value)} {oc4 kV4 dc4 pm4 cd4 ct4 : Value}
    {f5 : Addr} {od5 an5 : Option Addr} {sl5 : Array (Option Value)} {oc5 kV5 dc5 pm5 cd5 ct5 : Value}
    {f6 : Addr} {od6 an6 : Option Addr} {sl6 : Array (Option Value)} {oc6 kV6 dc6 pm6 cd6 ct6 : Value}
    {f7 : Addr} {od7 an7 : Option Addr} {sl7 : Array (Option Value)} {oc7 kV7 dc7 pm7 cd7 ct7 : Value}
    {f8 : Addr} {od8 an8 : Option Addr} {sl8 : Array (Option Value)} {oc8 kV8 dc8 pm8 cd8 ct8 : Value}
    {f9 : Addr} {od9 an9 : Option Addr} {sl9 : Array (Option Value)} {oc9 kV9 dc9 pm9 cd9 ct9 : Value}
    {f10 : Addr} {od10 an10 : Option Addr} {sl10 : Array (Option Value)} {oc10 kV10 dc10 pm10 cd10 ct10 : Value}
    {f11 : Addr} {od11 an11 : Option Addr} {sl11 : Array (Option Value)} {oc11 kV11 dc11 pm11 cd11 ct11 : Value}
    {f12 : Addr} {od12 an12 : Option Addr} {sl12 : Array (Option Value)} {oc12 kV12 dc12 pm12 cd12 ct12 : Value}
    {f13 : Addr} {od13 an13 : Option Addr} {sl13 : Array (Option Value)} {oc13 kV13 dc13 pm13 cd13 ct13 : Value}
    {f14 : Addr} {od14 an14 : Option Addr} {sl14 : Array (Option Value)} {oc14 kV14 dc14 pm14 cd14 ct14 : Value}
    {f15 : Addr} {od15 an15 : Option Addr} {sl15 : Array (Option Value)} {oc15 kV15 dc15 pm15 cd15 ct15 : Value}
    {f16 : Addr} {od16 an16 : Option Addr} {sl16 : Array (Option Value)} {oc16 kV16 dc16 pm16 cd16 ct16 : Value}
    {f17 : Addr} {od17 an17 : Option Addr} {sl17 : Array (Option Value)} {oc17 kV17 dc17 pm17 cd17 ct17 : Value}
    {f18 : Addr} {od18 an18 : Option Addr} {sl18 : Array (Option Value)} {oc18 kV18 dc18 pm18 cd18 ct18 : Value}
    {f19 : Addr} {od19 an19 : Option Addr} {sl19 : Array (Option Value)} {oc19 kV19 dc19 pm19 cd19 ct19 : Value}
    {f20 : Addr} {od20 an20 : Option Addr} {sl20 : Array (Option Value)} {oc20 kV20 dc20 pm20 cd20 ct20 : Value}
    {f21 : Addr} {od21 an21 : Option Addr} {sl21 : Array (Option Value)} {oc21 kV21 dc21 pm21 cd21 ct21 : Value}
    {f22 : Addr} {od22 an22 : Option Addr} {sl22 : Array (Option Value)} {oc22 kV22 dc22 pm22 cd22 ct22 : Value}
    {f23 : Addr} {od23 an23 : Option Addr} {sl23 : Array (Option Value)} {oc23 kV23 dc23 pm23 cd23 ct23 : Value}
    {f24 : Addr} {od24 an24 : Option Addr} {sl24 : Array (Option Value)} {oc24 kV24 dc24 pm24 cd24 ct24 : Value}
    {f25 : Addr} {od25 an25 : Option Addr} {sl25 : Array (Option Value)} {oc25 kV25 dc25 pm25 cd25 ct25 : Value}
    {f26 : Addr} {od26 an26 : Option Addr} {sl26 : Array (Option Value)} {oc26 kV26 dc26 pm26 cd26 ct26 : Value}
    {f27 : Addr} {od27 an27 : Option Addr} {sl27 : Array (Option Value)} {oc27 kV27 dc27 pm27 cd27 ct27 : Value}
    {f28 : Addr} {od28 an28 : Option Addr} {sl28 : Array (Option Value)} {oc28 kV28 dc28 pm28 cd28 ct28 : Value}
    {f29 : Addr} {od29 an29 : Option Addr} {sl29 : Array (Option Value)} {oc29 kV29 dc29 pm29 cd29 ct29 : Value}
    {f30 : Addr} {od30 an30 : Option Addr} {sl30 : Array (Option Value)} {oc30 kV30 dc30 pm30 cd30 ct30 : Value}
    {f31 : Addr} {od31 an31 : Option Addr} {sl31 : Array (Option Value)} {oc31 kV31 dc31 pm31 cd31 ct31 : Value}
    {tk_EDGE : Tok}
    {tk_GREATEST_SIZE : Tok}
    {tk_OUT_OF_RANGE : Tok}
    {tk_IS_ZERO : Tok}
    {tk_KIND : Tok}
    {tk_TIMES : Tok}
    {tk_DIVIDE : Tok}
    {tk_APART : Tok}
    {tk_PRIME : Tok}
    {tk_SIZE : Tok}
    {tk_FORM : Tok}
    {tk_ALIKE : Tok}
    {tk_POW : Tok}
    {tk_FEW : Tok}
    {p_ZERO : Addr} {o_ZERO : Option Addr} {n_ZERO : Nat} {s_ZERO : Array (Option Value)}
    {t_ZERO_0 : Tok}
    {t_ZERO_1 : Tok}
    {p_ONE : Addr} {o_ONE : Option Addr} {n_ONE : Nat} {s_ONE : Array (Option Value)}
    {t_ONE_0 : Tok}
    {t_ONE_1 : Tok}
    {p_TURNS : Addr} {o_TURNS : Option Addr} {n_TURNS : Nat} {s_TURNS : Array (Option Value)}
    {p_TURNS_0 : Addr} {o_TURNS_0 : Option Addr} {n_TURNS_0 : Nat} {s_TURNS_0 : Array (Option Value)}
    {t_TURNS_0_0 : Tok}
    {t_TURNS_0_1 : Tok}
    {p_TURNS_1 : Addr} {o_TURNS_1 : Option Addr} {n_TURNS_1 : Nat} {s_TURNS_1 : Array (Option Value)}
    {t_TURNS_1_0 : Tok}
    {t_TURNS_1_1 : Tok}
    {p_UNITS : Addr} {o_UNITS : Option Addr} {n_UNITS : Nat} {s_UNITS : Array (Option Value)}
    {t_UNITS_0 : Tok}
    {t_UNITS_1 : Tok}
    {p_HANDED : Addr} {o_HANDED : Option Addr} {n_HANDED : Nat} {s_HANDED : Array (Option Value)}
    {t_HANDED_0 : Tok}
    {t_HANDED_1 : Tok}
    {t_HANDED_2 : Tok}
    {t_HANDED_3 : Tok}
    {t_HANDED_4 : Tok}
    {t_HANDED_5 : Tok}
    {t_HANDED_6 : Tok}
    {t_HANDED_7 : Tok}
    {t_HANDED_8 : Tok}
    {t_HANDED_9 : Tok}
    {t_HANDED_10 : Tok}
    {t_HANDED_11 : Tok}
    (a1 : PySem.W.nsIn K mainGlobals "times" = some (some (.ref f1)))
    (l1 : K.lookup f1 = some ⟨oc1, od1, .func (PySem.W.fnOf "times" "times" (defArgs st_times) (defBody st_times) (defScope st_times) .none kV1 dc1 pm1 an1 cd1 ct1), sl1⟩)
    (c1 : PySem.W.codeIn K cd1 "times" = true) (k1 : PySem.W.keepIn K (.ref f1) = true)
    (a2 : PySem.W.nsIn K mainGlobals "less" = some (some (.ref f2)))
    (l2 : K.lookup f2 = some ⟨oc2, od2, .func (PySem.W.fnOf "less" "less" (defArgs st_less) (defBody st_less) (defScope st_less) .none kV2 dc2 pm2 an2 cd2 ct2), sl2⟩)
    (c2 : PySem.W.codeIn K cd2 "less" = true) (k2 : PySem.W.keepIn K (.ref f2) = true)
    (a3 : PySem.W.nsIn K mainGlobals "size" = some (some (.ref f3)))
    (l3 : K.lookup f3 = some ⟨oc3, od3, .func (PySem.W.fnOf "size" "size" (defArgs st_size) (defBody st_size) (defScope st_size) .none kV3 dc3 pm3 an3 cd3 ct3), sl3⟩)
    (c3 : PySem.W.codeIn K cd3 "size" = true) (k3 : PySem.W.keepIn K (.ref f3) = true)
    (a4 : PySem.W.nsIn K mainGlobals "turned_about" = some (some (.ref f4)))
    (l4 : K.lookup f4 = some ⟨oc4, od4, .func (PySem.W.fnOf "turned_about" "turned_about" (defArgs st_turned_about) (defBody st_turned_about) (defScope st_turned_about) .none kV4 dc4 pm4 an4 cd4 ct4), sl4⟩)
    (c4 : PySem.W.codeIn K cd4 "turned_about" = true) (k4 : PySem.W.keepIn K (.ref f4) = true)
    (a5 : PySem.W.nsIn K mainGlobals "in_first_part" = some (some (.ref f5)))
    (l5 : K.lookup f5 = some ⟨oc5, od5, .func (PySem.W.fnOf "in_first_part" "in_first_part" (defArgs st_in_first_part) (defBody st_in_first_part) (defScope st_in_first_part) .none kV5 dc5 pm5 an5 cd5 ct5), sl5⟩)
    (c5 : PySem.W.codeIn K cd5 "in_first_part" = true) (k5 : PySem.W.keepIn K (.ref f5) = true)
    (a6 : PySem.W.nsIn K mainGlobals "nearest" = some (some (.ref f6)))
    (l6 : K.lookup f6 = some ⟨oc6, od6, .func (PySem.W.fnOf "nearest" "nearest" (defArgs st_nearest) (defBody st_nearest) (defScope st_nearest) .none kV6 dc6 pm6 an6 cd6 ct6), sl6⟩)
    (c6 : PySem.W.codeIn K cd6 "nearest" = true) (k6 : PySem.W.keepIn K (.ref f6) = true)
    (a7 : PySem.W.nsIn K mainGlobals "quotient" = some (some (.ref f7)))
    (l7 : K.lookup f7 = some ⟨oc7, od7, .func (PySem.W.fnOf "quotient" "quotient" (defArgs st_quotient) (defBody st_quotient) (defScope st_quotient) .none kV7 dc7 pm7 an7 cd7 ct7), sl7⟩)
    (c7 : PySem.W.codeIn K cd7 "quotient" = true) (k7 : PySem.W.keepIn K (.ref f7) = true)
    (a8 : PySem.W.nsIn K mainGlobals "rest" = some (some (.ref f8)))
    (l8 : K.lookup f8 = some ⟨oc8, od8, .func (PySem.W.fnOf "rest" "rest" (defArgs st_rest) (defBody st_rest) (defScope st_rest) .none kV8 dc8 pm8 an8 cd8 ct8), sl8⟩)
    (c8 : PySem.W.codeIn K cd8 "rest" = true) (k8 : PySem.W.keepIn K (.ref f8) = true)
    (a9 : PySem.W.nsIn K mainGlobals "form" = some (some (.ref f9)))
    (l9 : K.lookup f9 = some ⟨oc9, od9, .func (PySem.W.fnOf "form" "form" (defArgs st_form) (defBody st_form) (defScope st_form) .none kV9 dc9 pm9 an9 cd9 ct9), sl9⟩)
    (c9 : PySem.W.codeIn K cd9 "form" = true) (k9 : PySem.W.keepIn K (.ref f9) = true)
    (a10 : PySem.W.nsIn K mainGlobals "common" = some (some (.ref f10)))
    (l10 : K.lookup f10 = some ⟨oc10, od10, .func (PySem.W.fnOf "common" "common" (defArgs st_common) (defBody st_common) (defScope st_common) .none kV10 dc10 pm10 an10 cd10 ct10), sl10⟩)
    (c10 : PySem.W.codeIn K cd10 "common" = true) (k10 : PySem.W.keepIn K (.ref f10) = true)
    (a11 : PySem.W.nsIn K mainGlobals "divides" = some (some (.ref f11)))
    (l11 : K.lookup f11 = some ⟨oc11, od11, .func (PySem.W.fnOf "divides" "divides" (defArgs st_divides) (defBody st_divides) (defScope st_divides) .none kV11 dc11 pm11 an11 cd11 ct11), sl11⟩)
    (c11 : PySem.W.codeIn K cd11 "divides" = true) (k11 : PySem.W.keepIn K (.ref f11) = true)
    (a12 : PySem.W.nsIn K mainGlobals "are_alike" = some (some (.ref f12)))
    (l12 : K.lookup f12 = some ⟨oc12, od12, .func (PySem.W.fnOf "are_alike" "are_alike" (defArgs st_are_alike) (defBody st_are_alike) (defScope st_are_alike) .none kV12 dc12 pm12 an12 cd12 ct12), sl12⟩)
    (c12 : PySem.W.codeIn K cd12 "are_alike" = true) (k12 : PySem.W.keepIn K (.ref f12) = true)
    (a13 : PySem.W.nsIn K mainGlobals "power" = some (some (.ref f13)))
    (l13 : K.lookup f13 = some ⟨oc13, od13, .func (PySem.W.fnOf "power" "power" (defArgs st_power) (defBody st_power) (defScope st_power) .none kV13 dc13 pm13 an13 cd13 ct13), sl13⟩)
    (c13 : PySem.W.codeIn K cd13 "power" = true) (k13 : PySem.W.keepIn K (.ref f13) = true)
    (a14 : PySem.W.nsIn K mainGlobals "first_part" = some (some (.ref f14)))
    (l14 : K.lookup f14 = some ⟨oc14, od14, .func (PySem.W.fnOf "first_part" "first_part" (defArgs st_first_part) (defBody st_first_part) (defScope st_first_part) .none kV14 dc14 pm14 an14 cd14 ct14), sl14⟩)
    (c14 : PySem.W.codeIn K cd14 "first_part" = true) (k14 : PySem.W.keepIn K (.ref f14) = true)
    (a15 : PySem.W.nsIn K mainGlobals "small_divisors" = some (some (.ref f15)))
    (l15 : K.lookup f15 = some ⟨oc15, od15, .func (PySem.W.fnOf "small_divisors" "small_divisors" (defArgs st_small_divisors) (defBody st_small_divisors) (defScope st_small_divisors) .none kV15 dc15 pm15 an15 cd15 ct15), sl15⟩)
    (c15 : PySem.W.codeIn K cd15 "small_divisors" = true) (k15 : PySem.W.keepIn K (.ref f15) = true)
    (a16 : PySem.W.nsIn K mainGlobals "is_prime" = some (some (.ref f16)))
    (l16 : K.lookup f16 = some ⟨oc16, od16, .func (PySem.W.fnOf "is_prime" "is_prime" (defArgs st_is_prime) (defBody st_is_prime) (defScope st_is_prime) .none kV16 dc16 pm16 an16 cd16 ct16), sl16⟩)
    (c16 : PySem.W.codeIn K cd16 "is_prime" = true) (k16 : PySem.W.keepIn K (.ref f16) = true)
    (a17 : PySem.W.nsIn K mainGlobals "take_apart" = some (some (.ref f17)))
    (l17 : K.lookup f17 = some ⟨oc17, od17, .func (PySem.W.fnOf "take_apart" "take_apart" (defArgs st_take_apart) (defBody st_take_apart) (defScope st_take_apart) .none kV17 dc17 pm17 an17 cd17 ct17), sl17⟩)
    (c17 : PySem.W.codeIn K cd17 "take_apart" = true) (k17 : PySem.W.keepIn K (.ref f17) = true)
    (a18 : PySem.W.nsIn K mainGlobals "signed" = some (some (.ref f18)))
    (l18 : K.lookup f18 = some ⟨oc18, od18, .func (PySem.W.fnOf "signed" "signed" (defArgs st_signed) (defBody st_signed) (defScope st_signed) .none kV18 dc18 pm18 an18 cd18 ct18), sl18⟩)
    (c18 : PySem.W.codeIn K cd18 "signed" = true) (k18 : PySem.W.keepIn K (.ref f18) = true)
    (a19 : PySem.W.nsIn K mainGlobals "numbers_of" = some (some (.ref f19)))
    (l19 : K.lookup f19 = some ⟨oc19, od19, .func (PySem.W.fnOf "numbers_of" "numbers_of" (defArgs st_numbers_of) (defBody st_numbers_of) (defScope st_numbers_of) .none kV19 dc19 pm19 an19 cd19 ct19), sl19⟩)
    (c19 : PySem.W.codeIn K cd19 "numbers_of" = true) (k19 : PySem.W.keepIn K (.ref f19) = true)
    (a20 : PySem.W.nsIn K mainGlobals "all_in_range" = some (some (.ref f20)))
    (l20 : K.lookup f20 = some ⟨oc20, od20, .func (PySem.W.fnOf "all_in_range" "all_in_range" (defArgs st_all_in_range) (defBody st_all_in_range) (defScope st_all_in_range) .none kV20 dc20 pm20 an20 cd20 ct20), sl20⟩)
    (c20 : PySem.W.codeIn K cd20 "all_in_range" = true) (k20 : PySem.W.keepIn K (.ref f20) = true)
    (a21 : PySem.W.nsIn K mainGlobals "kind_answer" = some (some (.ref f21)))
    (l21 : K.lookup f21 = some ⟨oc21, od21, .func (PySem.W.fnOf "kind_answer" "kind_answer" (defArgs st_kind_answer) (defBody st_kind_answer) (defScope st_kind_answer) .none kV21 dc21 pm21 an21 cd21 ct21), sl21⟩)
    (c21 : PySem.W.codeIn K cd21 "kind_answer" = true) (k21 : PySem.W.keepIn K (.ref f21) = true)
    (a22 : PySem.W.nsIn K mainGlobals "divide_answer" = some (some (.ref f22)))
    (l22 : K.lookup f22 = some ⟨oc22, od22, .func (PySem.W.fnOf "divide_answer" "divide_answer" (defArgs st_divide_answer) (defBody st_divide_answer) (defScope st_divide_answer) .none kV22 dc22 pm22 an22 cd22 ct22), sl22⟩)
    (c22 : PySem.W.codeIn K cd22 "divide_answer" = true) (k22 : PySem.W.keepIn K (.ref f22) = true)
    (a23 : PySem.W.nsIn K mainGlobals "apart_answer" = some (some (.ref f23)))
    (l23 : K.lookup f23 = some ⟨oc23, od23, .func (PySem.W.fnOf "apart_answer" "apart_answer" (defArgs st_apart_answer) (defBody st_apart_answer) (defScope st_apart_answer) .none kV23 dc23 pm23 an23 cd23 ct23), sl23⟩)
    (c23 : PySem.W.codeIn K cd23 "apart_answer" = true) (k23 : PySem.W.keepIn K (.ref f23) = true)
    (a24 : PySem.W.nsIn K mainGlobals "size_answer" = some (some (.ref f24)))
    (l24 : K.lookup f24 = some ⟨oc24, od24, .func (PySem.W.fnOf "size_answer" "size_answer" (defArgs st_size_answer) (defBody st_size_answer) (defScope st_size_answer) .none kV24 dc24 pm24 an24 cd24 ct24), sl24⟩)
    (c24 : PySem.W.codeIn K cd24 "size_answer" = true) (k24 : PySem.W.keepIn K (.ref f24) = true)
    (a25 : PySem.W.nsIn K mainGlobals "pow_answer" = some (some (.ref f25)))
    (l25 : K.lookup f25 = some ⟨oc25, od25, .func (PySem.W.fnOf "pow_answer" "pow_answer" (defArgs st_pow_answer) (defBody st_pow_answer) (defScope st_pow_answer) .none kV25 dc25 pm25 an25 cd25 ct25), sl25⟩)
    (c25 : PySem.W.codeIn K cd25 "pow_answer" = true) (k25 : PySem.W.keepIn K (.ref f25) = true)
    (a26 : PySem.W.nsIn K mainGlobals "few" = some (some (.ref f26)))
    (l26 : K.lookup f26 = some ⟨oc26, od26, .func (PySem.W.fnOf "few" "few" (defArgs st_few) (defBody st_few) (defScope st_few) .none kV26 dc26 pm26 an26 cd26 ct26), sl26⟩)
    (c26 : PySem.W.codeIn K cd26 "few" = true) (k26 : PySem.W.keepIn K (.ref f26) = true)
    (a27 : PySem.W.nsIn K mainGlobals "few_answer" = some (some (.ref f27)))
    (l27 : K.lookup f27 = some ⟨oc27, od27, .func (PySem.W.fnOf "few_answer" "few_answer" (defArgs st_few_answer) (defBody st_few_answer) (defScope st_few_answer) .none kV27 dc27 pm27 an27 cd27 ct27), sl27⟩)
    (c27 : PySem.W.codeIn K cd27 "few_answer" = true) (k27 : PySem.W.keepIn K (.ref f27) = true)
    (a28 : PySem.W.nsIn K mainGlobals "answer_of_one" = some (some (.ref f28)))
    (l28 : K.lookup f28 = some ⟨oc28, od28, .func (PySem.W.fnOf "answer_of_one" "answer_of_one" (defArgs st_answer_of_one) (defBody st_answer_of_one) (defScope st_answer_of_one) .none kV28 dc28 pm28 an28 cd28 ct28), sl28⟩)
    (c28 : PySem.W.codeIn K cd28 "answer_of_one" = true) (k28 : PySem.W.keepIn K (.ref f28) = true)
    (a29 : PySem.W.nsIn K mainGlobals "answer_of_two" = some (some (.ref f29)))
    (l29 : K.lookup f29 = some ⟨oc29, od29, .func (PySem.W.fnOf "answer_of_two" "answer_of_two" (defArgs st_answer_of_two) (defBody st_answer_of_two) (defScope st_answer_of_two) .none kV29 dc29 pm29 an29 cd29 ct29), sl29⟩)
    (c29 : PySem.W.codeIn K cd29 "answer_of_two" = true) (k29 : PySem.W.keepIn K (.ref f29) = true)
    (a30 : PySem.W.nsIn K mainGlobals "answer" = some (some (.ref f30)))
    (l30 : K.lookup f30 = some ⟨oc30, od30, .func (PySem.W.fnOf "answer" "answer" (defArgs st_answer) (defBody st_answer) (defScope st_answer) .none kV30 dc30 pm30 an30 cd30 ct30), sl30⟩)
    (c30 : PySem.W.codeIn K cd30 "answer" = true) (k30 : PySem.W.keepIn K (.ref f30) = true)
    (a31 : PySem.W.nsIn K mainGlobals "answers" = some (some (.ref f31)))
    (l31 : K.lookup f31 = some ⟨oc31, od31, .func (PySem.W.fnOf "answers" "answers" (defArgs st_answers) (defBody st_answers) (defScope st_answers) .none kV31 dc31 pm31 an31 cd31 ct31), sl31⟩)
    (c31 : PySem.W.codeIn K cd31 "answers" = true) (k31 : PySem.W.keepIn K (.ref f31) = true)
    (i_EDGE : PySem.W.nsIn K mainGlobals "EDGE" = some (some (.int 100 tk_EDGE)))
    (i_GREATEST_SIZE : PySem.W.nsIn K mainGlobals "GREATEST_SIZE" = some (some (.int 1000 tk_GREATEST_SIZE)))
    (i_OUT_OF_RANGE : PySem.W.nsIn K mainGlobals "OUT_OF_RANGE" = some (some (.int (-1) tk_OUT_OF_RANGE)))
    (i_IS_ZERO : PySem.W.nsIn K mainGlobals "IS_ZERO" = some (some (.int (-6) tk_IS_ZERO)))
    (i_KIND : PySem.W.nsIn K mainGlobals "KIND" = some (some (.int 0 tk_KIND)))
    (i_TIMES : PySem.W.nsIn K mainGlobals "TIMES" = some (some (.int 1 tk_TIMES)))
    (i_DIVIDE : PySem.W.nsIn K mainGlobals "DIVIDE" = some (some (.int 2 tk_DIVIDE)))
    (i_APART : PySem.W.nsIn K mainGlobals "APART" = some (some (.int 4 tk_APART)))
    (i_PRIME : PySem.W.nsIn K mainGlobals "PRIME" = some (some (.int 5 tk_PRIME)))
    (i_SIZE : PySem.W.nsIn K mainGlobals "SIZE" = some (some (.int 6 tk_SIZE)))
    (i_FORM : PySem.W.nsIn K mainGlobals "FORM" = some (some (.int 7 tk_FORM)))
    (i_ALIKE : PySem.W.nsIn K mainGlobals "ALIKE" = some (some (.int 8 tk_ALIKE)))
    (i_POW : PySem.W.nsIn K mainGlobals "POW" = some (some (.int 9 tk_POW)))
    (i_FEW : PySem.W.nsIn K mainGlobals "FEW" = some (some (.int 10 tk_FEW)))
    (z_len : PySem.W.nsIn K mainGlobals "len" = some none)
    (z_range : PySem.W.nsIn K mainGlobals "range" = some none)
    (z_sorted : PySem.W.nsIn K mainGlobals "sorted" = some none)
    (z_abs : PySem.W.nsIn K mainGlobals "abs" = some none)
    (z_list : PySem.W.nsIn K mainGlobals "list" = some none)
    (g_ZERO : PySem.W.nsIn K mainGlobals "ZERO" = some (some (.ref p_ZERO)))
    (m_ZERO : K.lookup p_ZERO = some ⟨.type "tuple", o_ZERO, .seq #[.int 0 t_ZERO_0, .int 0 t_ZERO_1] n_ZERO, s_ZERO⟩)
    (g_ONE : PySem.W.nsIn K mainGlobals "ONE" = some (some (.ref p_ONE)))
    (m_ONE : K.lookup p_ONE = some ⟨.type "tuple", o_ONE, .seq #[.int 1 t_ONE_0, .int 0 t_ONE_1] n_ONE, s_ONE⟩)
    (g_TURNS : PySem.W.nsIn K mainGlobals "TURNS" = some (some (.ref p_TURNS)))
    (m_TURNS : K.lookup p_TURNS = some ⟨.type "tuple", o_TURNS, .seq #[.ref p_TURNS_0, .ref p_TURNS_1] n_TURNS, s_TURNS⟩)
    (m_TURNS_0 : K.lookup p_TURNS_0 = some ⟨.type "tuple", o_TURNS_0, .seq #[.int 0 t_TURNS_0_0, .int 1 t_TURNS_0_1] n_TURNS_0, s_TURNS_0⟩)
    (m_TURNS_1 : K.lookup p_TURNS_1 = some ⟨.type "tuple", o_TURNS_1, .seq #[.int 1 t_TURNS_1_0, .int 1 t_TURNS_1_1] n_TURNS_1, s_TURNS_1⟩)
    (g_UNITS : PySem.W.nsIn K mainGlobals "UNITS" = some (some (.ref p_UNITS)))
    (m_UNITS : K.lookup p_UNITS = some ⟨.type "tuple", o_UNITS, .seq #[.int 4 t_UNITS_0, .int 6 t_UNITS_1] n_UNITS, s_UNITS⟩)
    (g_HANDED : PySem.W.nsIn K mainGlobals "HANDED" = some (some (.ref p_HANDED)))
    (m_HANDED : K.lookup p_HANDED = some ⟨.type "tuple", o_HANDED, .seq #[.int 1 t_HANDED_0, .int 4 t_HANDED_1, .int 4 t_HANDED_2, .int 4 t_HANDED_3, .int 2 t_HANDED_4, .int 2 t_HANDED_5, .int 1 t_HANDED_6, .int 2 t_HANDED_7, .int 6 t_HANDED_8, .int 5 t_HANDED_9, .int 2 t_HANDED_10, .int 2 t_HANDED_11] n_HANDED, s_HANDED⟩) :
    ∃ fd : FuncData, (∀ (s : Shared) (us : List Value), us.length = (["calls"] : List Str).length → BindsTo s fd ⟨us, []⟩ ((["calls"] : List Str).zip us)) ∧ ∀ base : Heap, K.In base → base.Ns mainGlobals mg → FnOk P w K mg base CX0 39 fa fd ["calls"] (spAns K) := by
  have e := hfa.symm.trans (PySem.W.mg_of X G a31)
  cases e
  have gv_EDGE := globI X G i_EDGE
  have gv_GREATEST_SIZE := globI X G i_GREATEST_SIZE
  have gv_OUT_OF_RANGE := globI X G i_OUT_OF_RANGE
  have gv_IS_ZERO := globI X G i_IS_ZERO
  have gv_KIND := globI X G i_KIND
  have gv_TIMES := globI X G i_TIMES
  have gv_DIVIDE := globI X G i_DIVIDE
  have gv_APART := globI X G i_APART
  have gv_PRIME := globI X G i_PRIME
  have gv_SIZE := globI X G i_SIZE
  have gv_FORM := globI X G i_FORM
  have gv_ALIKE := globI X G i_ALIKE
  have gv_POW := globI X G i_POW
  have gv_FEW := globI X G i_FEW
  have n_len : mg "len" = none := PySem.W.mg_none_of X G z_len
  have n_range : mg "range" = none := PySem.W.mg_none_of X G z_range
  have n_sorted : mg "sorted" = none := PySem.W.mg_none_of X G z_sorted
  have n_abs : mg "abs" = none := PySem.W.mg_none_of X G z_abs
  have n_list : mg "list" = none := PySem.W.mg_none_of X G z_list
  have gv_ZERO := globR X G g_ZERO
  have gv_ONE := globR X G g_ONE
  have gv_TURNS := globR X G g_TURNS
  have gv_UNITS := globR X G g_UNITS
  have gv_HANDED := globR X G g_HANDED
  have kz : KT K p_ZERO (zt Na02.zero) := ⟨_, _, _, m_ZERO, rfl, rfl, (by show 2 ≤ sizeLine; decide), .cons ⟨_, rfl⟩ (.cons ⟨_, rfl⟩ .nil)⟩
  have ko : KT K p_ONE (zt Na02.one) := ⟨_, _, _, m_ONE, rfl, rfl, (by show 2 ≤ sizeLine; decide), .cons ⟨_, rfl⟩ (.cons ⟨_, rfl⟩ .nil)⟩
  have kt : KT K p_TURNS [.ref p_TURNS_0, .ref p_TURNS_1] := ⟨_, _, _, m_TURNS, rfl, rfl, (by show 2 ≤ sizeLine; decide), .cons rfl (.cons rfl .nil)⟩
  have kt0 : KT K p_TURNS_0 (zt ⟨0, 1⟩) := ⟨_, _, _, m_TURNS_0, rfl, rfl, (by show 2 ≤ sizeLine; decide), .cons ⟨_, rfl⟩ (.cons ⟨_, rfl⟩ .nil)⟩
  have kt1 : KT K p_TURNS_1 (zt ⟨1, 1⟩) := ⟨_, _, _, m_TURNS_1, rfl, rfl, (by show 2 ≤ sizeLine; decide), .cons ⟨_, rfl⟩ (.cons ⟨_, rfl⟩ .nil)⟩
  have ku : KT K p_UNITS [.int 4, .int 6] := ⟨_, _, _, m_UNITS, rfl, rfl, (by show 2 ≤ sizeLine; decide), .cons ⟨_, rfl⟩ (.cons ⟨_, rfl⟩ .nil)⟩
  have kh : KT K p_HANDED (hN.map fun (n : Nat) => V.int (n : Int)) := ⟨_, _, _, m_HANDED, rfl, rfl, (by show 12 ≤ sizeLine; decide), .cons ⟨_, rfl⟩ (.cons ⟨_, rfl⟩ (.cons ⟨_, rfl⟩ (.cons ⟨_, rfl⟩ (.cons ⟨_, rfl⟩ (.cons ⟨_, rfl⟩ (.cons ⟨_, rfl⟩ (.cons ⟨_, rfl⟩ (.cons ⟨_, rfl⟩ (.cons ⟨_, rfl⟩ (.cons ⟨_, rfl⟩ (.cons ⟨_, rfl⟩ .nil)))))))))))⟩
  have gs : Gs K mg p_ZERO p_TURNS p_TURNS_0 p_TURNS_1 := ⟨gv_ZERO, kz, gv_TURNS, kt, kt0, kt1⟩
  have F1 := fun_mk (st := st_times) l1 c1 k1
  have b1 := F1.binds (ps := ["kind", "a", "b"]) fun _ _ _ _ _ _ us hl => match us, hl with | [_, _, _], _ => rfl
  have F2 := fun_mk (st := st_less) l2 c2 k2
  have b2 := F2.binds (ps := ["a", "b"]) fun _ _ _ _ _ _ us hl => match us, hl with | [_, _], _ => rfl
  have F3 := fun_mk (st := st_size) l3 c3 k3
  have b3 := F3.binds (ps := ["kind", "a"]) fun _ _ _ _ _ _ us hl => match us, hl with | [_, _], _ => rfl
  have F4 := fun_mk (st := st_turned_about) l4 c4 k4
  have b4 := F4.binds (ps := ["kind", "a"]) fun _ _ _ _ _ _ us hl => match us, hl with | [_, _], _ => rfl
  have F5 := fun_mk (st := st_in_first_part) l5 c5 k5
  have b5 := F5.binds (ps := ["kind", "a"]) fun _ _ _ _ _ _ us hl => match us, hl with | [_, _], _ => rfl
  have F6 := fun_mk (st := st_nearest) l6 c6 k6
  have b6 := F6.binds (ps := ["u", "n"]) fun _ _ _ _ _ _ us hl => match us, hl with | [_, _], _ => rfl
  have F7 := fun_mk (st := st_quotient) l7 c7 k7
  have b7 := F7.binds (ps := ["kind", "a", "b"]) fun _ _ _ _ _ _ us hl => match us, hl with | [_, _, _], _ => rfl
  have F8 := fun_mk (st := st_rest) l8 c8 k8
  have b8 := F8.binds (ps := ["kind", "a", "b"]) fun _ _ _ _ _ _ us hl => match us, hl with | [_, _, _], _ => rfl
  have F9 := fun_mk (st := st_form) l9 c9 k9
  have b9 := F9.binds (ps := ["kind", "a"]) fun _ _ _ _ _ _ us hl => match us, hl with | [_, _], _ => rfl
  have F10 := fun_mk (st := st_common) l10 c10 k10
  have b10 := F10.binds (ps := ["kind", "a", "b"]) fun _ _ _ _ _ _ us hl => match us, hl with | [_, _, _], _ => rfl
  have F11 := fun_mk (st := st_divides) l11 c11 k11
  have b11 := F11.binds (ps := ["kind", "b", "a"]) fun _ _ _ _ _ _ us hl => match us, hl with | [_, _, _], _ => rfl
  have F12 := fun_mk (st := st_are_alike) l12 c12 k12
  have b12 := F12.binds (ps := ["kind", "a", "b", "m"]) fun _ _ _ _ _ _ us hl => match us, hl with | [_, _, _, _], _ => rfl
  have F13 := fun_mk (st := st_power) l13 c13 k13
  have b13 := F13.binds (ps := ["kind", "a", "m", "e"]) fun _ _ _ _ _ _ us hl => match us, hl with | [_, _, _, _], _ => rfl
  have F14 := fun_mk (st := st_first_part) l14 c14 k14
  have b14 := F14.binds (ps := ["kind", "most"]) fun _ _ _ _ _ _ us hl => match us, hl with | [_, _], _ => rfl
  have F15 := fun_mk (st := st_small_divisors) l15 c15 k15
  have b15 := F15.binds (ps := ["kind", "most"]) fun _ _ _ _ _ _ us hl => match us, hl with | [_, _], _ => rfl
  have F16 := fun_mk (st := st_is_prime) l16 c16 k16
  have b16 := F16.binds (ps := ["kind", "a"]) fun _ _ _ _ _ _ us hl => match us, hl with | [_, _], _ => rfl
  have F17 := fun_mk (st := st_take_apart) l17 c17 k17
  have b17 := F17.binds (ps := ["kind", "a"]) fun _ _ _ _ _ _ us hl => match us, hl with | [_, _], _ => rfl
  have F18 := fun_mk (st := st_signed) l18 c18 k18
  have b18 := F18.binds (ps := ["handed"]) fun _ _ _ _ _ _ us hl => match us, hl with | [_], _ => rfl
  have F19 := fun_mk (st := st_numbers_of) l19 c19 k19
  have b19 := F19.binds (ps := ["handed"]) fun _ _ _ _ _ _ us hl => match us, hl with | [_], _ => rfl
  have F20 := fun_mk (st := st_all_in_range) l20 c20 k20
  have b20 := F20.binds (ps := ["numbers"]) fun _ _ _ _ _ _ us hl => match us, hl with | [_], _ => rfl
  have F21 := fun_mk (st := st_kind_answer) l21 c21 k21
  have b21 := F21.binds (ps := ["k"]) fun _ _ _ _ _ _ us hl => match us, hl with | [_], _ => rfl
  have F22 := fun_mk (st := st_divide_answer) l22 c22 k22
  have b22 := F22.binds (ps := ["kind", "a", "b"]) fun _ _ _ _ _ _ us hl => match us, hl with | [_, _, _], _ => rfl
  have F23 := fun_mk (st := st_apart_answer) l23 c23 k23
  have b23 := F23.binds (ps := ["kind", "a"]) fun _ _ _ _ _ _ us hl => match us, hl with | [_, _], _ => rfl
  have F24 := fun_mk (st := st_size_answer) l24 c24 k24
  have b24 := F24.binds (ps := ["kind", "n"]) fun _ _ _ _ _ _ us hl => match us, hl with | [_, _], _ => rfl
  have F25 := fun_mk (st := st_pow_answer) l25 c25 k25
  have b25 := F25.binds (ps := ["kind", "a", "m", "e"]) fun _ _ _ _ _ _ us hl => match us, hl with | [_, _, _, _], _ => rfl
  have F26 := fun_mk (st := st_few) l26 c26 k26
  have b26 := F26.binds (ps := ["kind", "m"]) fun _ _ _ _ _ _ us hl => match us, hl with | [_, _], _ => rfl
  have F27 := fun_mk (st := st_few_answer) l27 c27 k27
  have b27 := F27.binds (ps := ["kind", "m"]) fun _ _ _ _ _ _ us hl => match us, hl with | [_, _], _ => rfl
  have F28 := fun_mk (st := st_answer_of_one) l28 c28 k28
  have b28 := F28.binds (ps := ["kind", "call", "a"]) fun _ _ _ _ _ _ us hl => match us, hl with | [_, _, _], _ => rfl
  have F29 := fun_mk (st := st_answer_of_two) l29 c29 k29
  have b29 := F29.binds (ps := ["kind", "call", "a", "b"]) fun _ _ _ _ _ _ us hl => match us, hl with | [_, _, _, _], _ => rfl
  have F30 := fun_mk (st := st_answer) l30 c30 k30
  have b30 := F30.binds (ps := ["kind", "call", "handed"]) fun _ _ _ _ _ _ us hl => match us, hl with | [_, _, _], _ => rfl
  have F31 := fun_mk (st := st_answers) l31 c31 k31
  refine ⟨PySem.W.fnOf "answers" "answers" (defArgs st_answers) (defBody st_answers) (defScope st_answers) .none kV31 dc31 pm31 an31 cd31 ct31, fun s us hu => match us, hu with | [_], _ => .of_eq rfl, fun base _ _ => ?_⟩
  have d_times : Def P w K mg base "times" 1 ["kind", "a", "b"] (spOf K D_times) := def_of F1 (PySem.W.mg_of X G a1) b1 (ok_times F1)
  have d_less : Def P w K mg base "less" 1 ["a", "b"] (spOf K D_less) := def_of F2 (PySem.W.mg_of X G a2) b2 (ok_less F2)
  have d_size : Def P w K mg base "size" 1 ["kind", "a"] (spOf K D_size) := def_of F3 (PySem.W.mg_of X G a3) b3 (ok_size F3)
  have d_turned_about : Def P w K mg base "turned_about" 1 ["kind", "a"] (spOf K D_turned) := def_of F4 (PySem.W.mg_of X G a4) b4 (ok_turned F4)
  have d_in_first_part : Def P w K mg base "in_first_part" 1 ["kind", "a"] (spOf K D_first) := def_of F5 (PySem.W.mg_of X G a5) b5 (ok_first F5)
  have d_nearest : Def P w K mg base "nearest" 1 ["u", "n"] (spOf K D_nearest) := def_of F6 (PySem.W.mg_of X G a6) b6 (ok_nearest F6)
  have d_quotient : Def P w K mg base "quotient" 2 ["kind", "a", "b"] (spOf K D_quot) := def_of F7 (PySem.W.mg_of X G a7) b7 (ok_quot F7 d_size d_times d_turned_about d_nearest)
  have d_rest : Def P w K mg base "rest" 3 ["kind", "a", "b"] (spOf K D_rest) := def_of F8 (PySem.W.mg_of X G a8) b8 (ok_rest F8 d_less d_times d_quotient)
  have d_form : Def P w K mg base "form" 2 ["kind", "a"] (spOf K D_form) := def_of F9 (PySem.W.mg_of X G a9) b9 (ok_form F9 gs d_times d_in_first_part)
  have d_common : Def P w K mg base "common" 4 ["kind", "a", "b"] (spOf K D_common) := def_of F10 (PySem.W.mg_of X G a10) b10 (ok_common F10 gs d_rest d_form)
  have d_divides : Def P w K mg base "divides" 4 ["kind", "b", "a"] (spOf K D_divides) := def_of F11 (PySem.W.mg_of X G a11) b11 (ok_divides F11 gs d_rest)
  have d_are_alike : Def P w K mg base "are_alike" 5 ["kind", "a", "b", "m"] (spOf K D_alike) := def_of F12 (PySem.W.mg_of X G a12) b12 (ok_alike F12 d_less d_divides)
  have d_power : Def P w K mg base "power" 36 ["kind", "a", "m", "e"] (spOf K (D_power 33)) := def_of F13 (PySem.W.mg_of X G a13) b13 (ok_power F13 (PySem.W.mg_of X G a13) b13 gv_ONE ko d_rest d_times 33)
  have d_first_part : Def P w K mg base "first_part" 2 ["kind", "most"] (spOf K D_fp) := def_of F14 (PySem.W.mg_of X G a14) b14 (ok_fp F14 n_range d_size d_in_first_part)
  have d_small_divisors : Def P w K mg base "small_divisors" 3 ["kind", "most"] (spOf K D_sd) := def_of F15 (PySem.W.mg_of X G a15) b15 (ok_sd F15 n_sorted d_size d_first_part)
  have d_is_prime : Def P w K mg base "is_prime" 5 ["kind", "a"] (spOf K D_prime) := def_of F16 (PySem.W.mg_of X G a16) b16 (ok_prime F16 d_size d_small_divisors d_divides)
  have d_take_apart : Def P w K mg base "take_apart" 5 ["kind", "a"] (spOf K D_ta) := def_of F17 (PySem.W.mg_of X G a17) b17 (ok_ta F17 d_size d_small_divisors d_divides d_quotient d_form)
  have d_signed : Def P w K mg base "signed" 1 ["handed"] (spOf K D_signed) := def_of F18 (PySem.W.mg_of X G a18) b18 (ok_signed F18)
  have d_numbers_of : Def P w K mg base "numbers_of" 2 ["handed"] (spOf K D_numbers) := def_of F19 (PySem.W.mg_of X G a19) b19 (ok_numbers F19 n_range n_len d_signed)
  have d_all_in_range : Def P w K mg base "all_in_range" 1 ["numbers"] (spOf K D_range) := def_of F20 (PySem.W.mg_of X G a20) b20 (ok_range F20 n_abs gv_EDGE)
  have d_kind_answer : Def P w K mg base "kind_answer" 1 ["k"] (spL K D_kind) := def_of F21 (PySem.W.mg_of X G a21) b21 (ok_kind F21 gv_OUT_OF_RANGE gv_UNITS ku)
  have d_divide_answer : Def P w K mg base "divide_answer" 4 ["kind", "a", "b"] (spL K D_divide) := def_of F22 (PySem.W.mg_of X G a22) b22 (ok_divide F22 gs n_list gv_IS_ZERO d_quotient d_rest)
  have d_apart_answer : Def P w K mg base "apart_answer" 6 ["kind", "a"] (spL K D_apart) := def_of F23 (PySem.W.mg_of X G a23) b23 (ok_apart F23 gs n_list n_len gv_IS_ZERO d_take_apart)
  have d_size_answer : Def P w K mg base "size_answer" 3 ["kind", "n"] (spL K D_sizeA) := def_of F24 (PySem.W.mg_of X G a24) b24 (ok_sizeA F24 n_list n_len gv_OUT_OF_RANGE gv_GREATEST_SIZE d_size d_first_part)
  have d_pow_answer : Def P w K mg base "pow_answer" 37 ["kind", "a", "m", "e"] (spL K D_powA) := def_of F25 (PySem.W.mg_of X G a25) b25 (ok_powA F25 gs n_list gv_IS_ZERO d_rest d_power)
  have d_few : Def P w K mg base "few" 6 ["kind", "m"] (spOf K D_few) := def_of F26 (PySem.W.mg_of X G a26) b26 (ok_few F26 d_size d_take_apart)
  have d_few_answer : Def P w K mg base "few_answer" 7 ["kind", "m"] (spL K D_fewA) := def_of F27 (PySem.W.mg_of X G a27) b27 (ok_fewA F27 gs gv_IS_ZERO d_few)
  have d_answer_of_one : Def P w K mg base "answer_of_one" 8 ["kind", "call", "a"] (spL K D_one) := def_of F28 (PySem.W.mg_of X G a28) b28 (ok_one F28 n_list gv_APART gv_PRIME gv_FORM gv_FEW d_apart_answer d_is_prime d_form d_few_answer d_size)
  have d_answer_of_two : Def P w K mg base "answer_of_two" 5 ["kind", "call", "a", "b"] (spL K D_two) := def_of F29 (PySem.W.mg_of X G a29) b29 (ok_two F29 n_list gv_TIMES gv_DIVIDE d_times d_divide_answer d_common)
  have d_answer : Def P w K mg base "answer" 38 ["kind", "call", "handed"] (spL K D_answer) := def_of F30 (PySem.W.mg_of X G a30) b30 (ok_answer F30 n_len gv_KIND gv_SIZE gv_ALIKE gv_POW gv_OUT_OF_RANGE d_kind_answer d_size_answer d_numbers_of d_all_in_range d_are_alike d_pow_answer d_answer_of_one d_answer_of_two)
  exact ok_answers F31 n_len gv_KIND gv_HANDED kh d_answer
end PN
open PySem PySem.W PyProof.Rows
set_option maxRecDepth 100000 in
set_option maxHeartbeats 8000000 in
theorem PySem.Challenge.cw_planenumbers_s01_answers_holds : PySem.Challenge.rw_planenumbers_s01_answers.Holds := by
  w_on; k_headS; (case hw => exact ⟨[.list [.int 0, .int 0]], by decide +kernel, by decide +kernel⟩)
  k_fillS
  refine L2.walk_specK (r := PySem.Challenge.rw_planenumbers_s01_answers) (k := 39) (CX := L2.CX0) (ps := ["calls"]) (sp := PN.spAns) (by decide +kernel) rfl rfl ⟨rfl, by decide, by decide⟩ (fun w h Y => PySem.W.kIn_of Y) ?F ?S (fun _ _ _ _ z => z)
  case F =>
    intro w mg fa h Y KX G hmg
    refine' PN.all_mk KX G hmg ?a1 ?l1 ?c1 ?k1 ?a2 ?l2 ?c2 ?k2 ?a3 ?l3 ?c3 ?k3 ?a4 ?l4 ?c4 ?k4 ?a5 ?l5 ?c5 ?k5 ?a6 ?l6 ?c6 ?k6 ?a7 ?l7 ?c7 ?k7 ?a8 ?l8 ?c8 ?k8 ?a9 ?l9 ?c9 ?k9 ?a10 ?l10 ?c10 ?k10 ?a11 ?l11 ?c11 ?k11 ?a12 ?l12 ?c12 ?k12 ?a13 ?l13 ?c13 ?k13 ?a14 ?l14 ?c14 ?k14 ?a15 ?l15 ?c15 ?k15 ?a16 ?l16 ?c16 ?k16 ?a17 ?l17 ?c17 ?k17 ?a18 ?l18 ?c18 ?k18 ?a19 ?l19 ?c19 ?k19 ?a20 ?l20 ?c20 ?k20 ?a21 ?l21 ?c21 ?k21 ?a22 ?l22 ?c22 ?k22 ?a23 ?l23 ?c23 ?k23 ?a24 ?l24 ?c24 ?k24 ?a25 ?l25 ?c25 ?k25 ?a26 ?l26 ?c26 ?k26 ?a27 ?l27 ?c27 ?k27 ?a28 ?l28 ?c28 ?k28 ?a29 ?l29 ?c29 ?k29 ?a30 ?l30 ?c30 ?k30 ?a31 ?l31 ?c31 ?k31 ?i_EDGE ?i_GREATEST_SIZE ?i_OUT_OF_RANGE ?i_IS_ZERO ?i_KIND ?i_TIMES ?i_DIVIDE ?i_APART ?i_PRIME ?i_SIZE ?i_FORM ?i_ALIKE ?i_POW ?i_FEW ?z_len ?z_range ?z_sorted ?z_abs ?z_list ?g_ZERO ?m_ZERO ?g_ONE ?m_ONE ?g_TURNS ?m_TURNS ?m_TURNS_0 ?m_TURNS_1 ?g_UNITS ?m_UNITS ?g_HANDED ?m_HANDED
    (case a1 => k_is)
    (case l1 => k_is)
    (case c1 => k_is)
    (case k1 => k_is)
    (case a2 => k_is)
    (case l2 => k_is)
    (case c2 => k_is)
    (case k2 => k_is)
    (case a3 => k_is)
    (case l3 => k_is)
    (case c3 => k_is)
    (case k3 => k_is)
    (case a4 => k_is)
    (case l4 => k_is)
    (case c4 => k_is)
    (case k4 => k_is)
    (case a5 => k_is)
    (case l5 => k_is)
    (case c5 => k_is)
    (case k5 => k_is)
    (case a6 => k_is)
    (case l6 => k_is)
    (case c6 => k_is)
    (case k6 => k_is)
    (case a7 => k_is)
    (case l7 => k_is)
    (case c7 => k_is)
    (case k7 => k_is)
    (case a8 => k_is)
    (case l8 => k_is)
    (case c8 => k_is)
    (case k8 => k_is)
    (case a9 => k_is)
    (case l9 => k_is)
    (case c9 => k_is)
    (case k9 => k_is)
    (case a10 => k_is)
    (case l10 => k_is)
    (case c10 => k_is)
    (case k10 => k_is)
    (case a11 => k_is)
    (case l11 => k_is)
    (case c11 => k_is)
    (case k11 => k_is)
    (case a12 => k_is)
    (case l12 => k_is)
    (case c12 => k_is)
    (case k12 => k_is)
    (case a13 => k_is)
    (case l13 => k_is)
    (case c13 => k_is)
    (case k13 => k_is)
    (case a14 => k_is)
    (case l14 => k_is)
    (case c14 => k_is)
    (case k14 => k_is)
    (case a15 => k_is)
    (case l15 => k_is)
    (case c15 => k_is)
    (case k15 => k_is)
    (case a16 => k_is)
    (case l16 => k_is)
    (case c16 => k_is)
    (case k16 => k_is)
    (case a17 => k_is)
    (case l17 => k_is)
    (case c17 => k_is)
    (case k17 => k_is)
    (case a18 => k_is)
    (case l18 => k_is)
    (case c18 => k_is)
    (case k18 => k_is)
    (case a19 => k_is)
    (case l19 => k_is)
    (case c19 => k_is)
    (case k19 => k_is)
    (case a20 => k_is)
    (case l20 => k_is)
    (case c20 => k_is)
    (case k20 => k_is)
    (case a21 => k_is)
    (case l21 => k_is)
    (case c21 => k_is)
    (case k21 => k_is)
    (case a22 => k_is)
    (case l22 => k_is)
    (case c22 => k_is)
    (case k22 => k_is)
    (case a23 => k_is)
    (case l23 => k_is)
    (case c23 => k_is)
    (case k23 => k_is)
    (case a24 => k_is)
    (case l24 => k_is)
    (case c24 => k_is)
    (case k24 => k_is)
    (case a25 => k_is)
    (case l25 => k_is)
    (case c25 => k_is)
    (case k25 => k_is)
    (case a26 => k_is)
    (case l26 => k_is)
    (case c26 => k_is)
    (case k26 => k_is)
    (case a27 => k_is)
    (case l27 => k_is)
    (case c27 => k_is)
    (case k27 => k_is)
    (case a28 => k_is)
    (case l28 => k_is)
    (case c28 => k_is)
    (case k28 => k_is)
    (case a29 => k_is)
    (case l29 => k_is)
    (case c29 => k_is)
    (case k29 => k_is)
    (case a30 => k_is)
    (case l30 => k_is)
    (case c30 => k_is)
    (case k30 => k_is)
    (case a31 => k_is)
    (case l31 => k_is)
    (case c31 => k_is)
    (case k31 => k_is)
    (case i_EDGE => k_is)
    (case i_GREATEST_SIZE => k_is)
    (case i_OUT_OF_RANGE => k_is)
    (case i_IS_ZERO => k_is)
    (case i_KIND => k_is)
    (case i_TIMES => k_is)
    (case i_DIVIDE => k_is)
    (case i_APART => k_is)
    (case i_PRIME => k_is)
    (case i_SIZE => k_is)
    (case i_FORM => k_is)
    (case i_ALIKE => k_is)
    (case i_POW => k_is)
    (case i_FEW => k_is)
    (case z_len => k_is)
    (case z_range => k_is)
    (case z_sorted => k_is)
    (case z_abs => k_is)
    (case z_list => k_is)
    (case g_ZERO => k_is)
    (case m_ZERO => k_is)
    (case g_ONE => k_is)
    (case m_ONE => k_is)
    (case g_TURNS => k_is)
    (case m_TURNS => k_is)
    (case m_TURNS_0 => k_is)
    (case m_TURNS_1 => k_is)
    (case g_UNITS => k_is)
    (case m_UNITS => k_is)
    (case g_HANDED => k_is)
    (case m_HANDED => k_is)
  case S =>
    intro K H xs a hO hwi hask hx
    cases hx with
    | cons h1 h2 =>
      cases h2
      cases h1 with
      | lst hs ha =>
        have e := L2.ints_dw a.1 _ ha
        subst e
        have q : ((Codec.inLen 0 220 a.1 && a.1.all (Codec.inInt 0 4294967295)) && true) = true := hwi
        rw [Bool.and_eq_true, Bool.and_eq_true] at q
        refine ⟨_, a.1, rfl, hs, (Codec.inNat_iff.mp q.1.1).2, fun x hx => ?_, hask, fun H' p hp => .lst (L2.SqL.of hp) (L2.dw_ints _)⟩
        have := List.all_eq_true.mp q.1.2 x hx
        exact Codec.inInt_iff.mp this
end
