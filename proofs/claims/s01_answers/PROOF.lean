import PyProof.Rows.All
import Wide.All
import OpenK.AllK
import Wide.FinOn
import Open.SpecLaws
import KE.OsHead
import KE.OsGo
import HandS.ForSpec
import HandS.Wide
import HandS.More
import HandS.Dict
import HandS.WordsDict
import PySem.Challenge.RW_whentolook_s01_answers
set_option Elab.async false
/-! The mathematics: fractions as rationals, counts, weights. -/
namespace Wl
open Kp317
def ofR (r : Rat) : Q := (r.num, r.den)
theorem red_eq {a : Int} {b : Nat} (h : b ≠ 0) : red a b = ofR (mkRat a b) := by
  rw [← Rat.normalize_eq_mkRat h, Rat.normalize_eq h]; rfl
theorem mk_ofR (r : Rat) : mkRat r.num r.den = r := Rat.mkRat_self r
theorem ofR_inj {r s : Rat} (h : ofR r = ofR s) : r = s := by
  rw [← mk_ofR r, ← mk_ofR s]
  have h1 := congrArg Prod.fst h
  have h2 := congrArg Prod.snd h
  dsimp [ofR] at h1 h2
  rw [h1, h2]
theorem add_R (r s : Rat) : add (ofR r) (ofR s) = ofR (r + s) := by
  show red (r.num * s.den + s.num * r.den) (r.den * s.den) = _
  rw [red_eq (Nat.mul_ne_zero r.den_nz s.den_nz)]
  rw [← Rat.mkRat_add_mkRat _ _ r.den_nz s.den_nz, mk_ofR, mk_ofR]
theorem sub_R (r s : Rat) : sub (ofR r) (ofR s) = ofR (r - s) := by
  show red (r.num * s.den - s.num * r.den) (r.den * s.den) = _
  rw [red_eq (Nat.mul_ne_zero r.den_nz s.den_nz)]
  congr 1
  have h := Rat.mkRat_add_mkRat r.num (-s.num) r.den_nz s.den_nz
  rw [mk_ofR, ← Rat.neg_mkRat, mk_ofR] at h
  rw [Rat.sub_eq_add_neg, h]
  congr 1
  grind
theorem mul_R (r s : Rat) : mul (ofR r) (ofR s) = ofR (r * s) := by
  show red (r.num * s.num) (r.den * s.den) = _
  rw [red_eq (Nat.mul_ne_zero r.den_nz s.den_nz)]
  rw [← Rat.mkRat_mul_mkRat, mk_ofR, mk_ofR]
theorem whole_R (a : Int) : whole a = ofR (a : Rat) := rfl
theorem one_R : ((1, 1) : Q) = ofR 1 := rfl
theorem zero_R : ((0, 1) : Q) = ofR 0 := rfl
theorem mk_div (a : Int) (b : Nat) : mkRat a b = (a : Rat) / (b : Rat) := Rat.mkRat_eq_div ..
theorem self_div (r : Rat) : r = (r.num : Rat) / (r.den : Rat) := by rw [← mk_div, mk_ofR]
theorem nat_ne {b : Nat} (h : b ≠ 0) : (b : Rat) ≠ 0 := by exact_mod_cast h
theorem div_R {r s : Rat} (h : 0 < s) : div (ofR r) (ofR s) = ofR (r / s) := by
  have hn : 0 < s.num := by
    have := Rat.num_nonneg (q := s)
    have h0 : 0 ≤ s.num := this.mpr (Rat.le_of_lt h)
    have h1 : s.num ≠ 0 := fun e => by
      have := Rat.num_eq_zero.mp e
      rw [this] at h
      exact absurd h (by decide)
    omega
  have hz : s.num.natAbs ≠ 0 := by omega
  show red (r.num * s.den) (r.den * s.num.natAbs) = _
  rw [red_eq (Nat.mul_ne_zero r.den_nz hz)]
  congr 1
  rw [mk_div]
  have e1 : ((r.den * s.num.natAbs : Nat) : Rat) = (r.den : Rat) * (s.num : Rat) := by
    have : ((s.num.natAbs : Nat) : Int) = s.num := by omega
    rw [Rat.natCast_mul, ← Rat.intCast_natCast s.num.natAbs, this]
  have er := self_div r
  have es := self_div s
  have d1 := nat_ne r.den_nz
  have d2 := nat_ne s.den_nz
  have d3 : (s.num : Rat) ≠ 0 := by
    have : s.num ≠ 0 := by omega
    exact_mod_cast this
  rw [e1, Rat.intCast_mul, Rat.intCast_natCast]
  conv => rhs; rw [er, es]
  generalize (r.num : Rat) = a at *
  generalize (s.num : Rat) = b at *
  generalize (r.den : Rat) = c at *
  generalize (s.den : Rat) = d at *
  grind
theorem less_R (r s : Rat) : less (ofR r) (ofR s) = decide (r < s) := by
  show decide (r.num * s.den < s.num * r.den) = decide (r < s)
  rw [decide_eq_decide]
  exact (Rat.lt_iff r s).symm
/-! ### counts -/
theorem choose_mul : ∀ n k, (k + 1) * choose n (k + 1) + k * choose n k = n * choose n k
  | 0, 0 => by simp [choose]
  | 0, k + 1 => by simp [choose]
  | n + 1, 0 => by
    have := choose_mul n 0
    simp only [choose] at *
    omega
  | n + 1, k + 1 => by
    have h1 := choose_mul n k
    have h2 := choose_mul n (k + 1)
    simp only [choose]
    grind
theorem ways_turn (n i : Nat) : ((choose n i : Int) * ((n : Int) - i)) / ((i : Int) + 1) = choose n (i + 1) := by
  have h := choose_mul n i
  have h' : ((choose n i : Int) * ((n : Int) - i)) = ((i : Int) + 1) * choose n (i + 1) := by
    have := congrArg (fun z : Nat => (z : Int)) h
    simp only [Int.natCast_add, Int.natCast_mul] at this
    grind
  rw [h', Int.mul_ediv_cancel_left]
  omega
theorem sum_snoc (l : List Nat) (z : Nat) : Kp317.sum (l ++ [z]) = Kp317.sum l + z := by
  simp [Kp317.sum, List.foldl_append]
theorem sum_mul (b : Nat) (l : List Nat) : Kp317.sum (l.map (· * b)) = Kp317.sum l * b := by
  have : ∀ (l : List Nat) (a : Nat), (l.map (· * b)).foldl (fun (a b : Nat) => a + b) (a * b) = l.foldl (fun (a b : Nat) => a + b) a * b := by
    intro l
    induction l with
    | nil => intro a; rfl
    | cons x l ih =>
      intro a
      show (l.map (· * b)).foldl (fun (a b : Nat) => a + b) (a * b + x * b) = l.foldl (fun (a b : Nat) => a + b) (a + x) * b
      rw [← Nat.add_mul]
      exact ih (a + x)
  have := this l 0
  rw [Nat.zero_mul] at this
  exact this
theorem heavy_zero (n b : Nat) : heavy n 0 b = 1 := by
  simp [heavy, Kp317.sum, choose]
theorem heavy_succ (n m b : Nat) : heavy n (m + 1) b = heavy n m b * b + choose n (m + 1) := by
  unfold heavy
  rw [List.range_succ, List.map_append, List.map_cons, List.map_nil, sum_snoc, ← sum_mul, List.map_map]
  congr 1
  · congr 1
    apply List.map_congr_left
    intro i hi
    have hi := List.mem_range.mp hi
    show choose n i * b ^ (m + 1 - i) = choose n i * b ^ (m - i) * b
    rw [show m + 1 - i = (m - i) + 1 by omega, Nat.pow_succ]
    grind
  · rw [Nat.sub_self, Nat.pow_zero, Nat.mul_one]
/-- the weight so far: a turn behind -/
def hv (n b : Nat) : Nat → Nat
  | 0 => 0
  | p + 1 => heavy n p b
theorem hv_turn (n b p : Nat) : hv n b (p + 1) = hv n b p * b + choose n p := by
  cases p with
  | zero => show heavy n 0 b = 0 * b + choose n 0; rw [heavy_zero]; simp [choose]
  | succ p => exact heavy_succ n p b
theorem heavy_pos (n m : Nat) {b : Nat} (h : 0 < b) : 0 < heavy n m b := by
  induction m with
  | zero => rw [heavy_zero]; exact Nat.one_pos
  | succ m ih => rw [heavy_succ]; exact Nat.lt_of_lt_of_le (Nat.mul_pos ih h) (Nat.le_add_right _ _)
/-- worth, multiplied by weight -/
def ww (n m k : Nat) : Int := (choose n (m + 1) : Int) - choose (n - k) (m + 1)
theorem ww_zero (n m : Nat) : ww n m 0 = 0 := by
  unfold ww; rw [Nat.sub_zero]; omega
theorem ww_turn (n m i : Nat) (h : i < n) : ww n m (i + 1) = ww n m i + choose (n - 1 - i) m := by
  unfold ww
  have e : n - i = (n - 1 - i) + 1 := by omega
  have e2 : n - (i + 1) = n - 1 - i := by omega
  rw [e, e2]
  have := show choose (n - 1 - i + 1) (m + 1) = choose (n - 1 - i) m + choose (n - 1 - i) (m + 1) from rfl
  rw [this]
  omega
theorem ww_min (n m k : Nat) : ww n m (min n k) = ww n m k := by
  unfold ww
  rw [show n - min n k = n - k by omega]
theorem worth_ww (n m k b : Nat) : worth n m k b = red (ww n m k) (heavy n m b) := rfl
def worthR (n m k b : Nat) : Rat := (ww n m k : Rat) / (heavy n m b : Rat)
theorem worth_R (n m k : Nat) {b : Nat} (h : 0 < b) : worth n m k b = ofR (worthR n m k b) := by
  rw [worth_ww, red_eq (Nat.pos_iff_ne_zero.mp (heavy_pos n m h)), mk_div]; rfl
theorem choose_mono1 (n k : Nat) : choose n k ≤ choose (n + 1) k := by
  cases k with
  | zero => simp [choose]
  | succ k => show choose n (k + 1) ≤ choose n k + choose n (k + 1); omega
theorem choose_mono {n n' : Nat} (k : Nat) (h : n ≤ n') : choose n k ≤ choose n' k := by
  induction h with
  | refl => exact Nat.le_refl _
  | step _ ih => exact Nat.le_trans ih (choose_mono1 _ k)
theorem choose_heavy (n m b : Nat) : choose n m ≤ heavy n m b := by
  cases m with
  | zero => rw [heavy_zero]; simp [choose]
  | succ m => rw [heavy_succ]; omega
theorem ww_nonneg (n m k : Nat) : 0 ≤ ww n m k := by
  have := choose_mono (m + 1) (Nat.sub_le n k)
  unfold ww; omega
theorem ww_step (n m k b : Nat) : ww n m k ≤ ww n m (k - 1) + heavy n m b := by
  cases k with
  | zero => show ww n m 0 ≤ ww n m 0 + _; omega
  | succ k =>
    show ww n m (k + 1) ≤ ww n m k + heavy n m b
    by_cases h : k < n
    · rw [ww_turn n m k h]
      have h1 := choose_mono m (show n - 1 - k ≤ n by omega)
      have h2 := choose_heavy n m b
      omega
    · unfold ww
      rw [show n - (k + 1) = n - k by omega]
      omega
theorem choose_le (n k : Nat) : choose n k ≤ 2 ^ n := by
  induction n generalizing k with
  | zero => cases k <;> simp [choose]
  | succ n ih =>
    cases k with
    | zero => show 1 ≤ 2 ^ (n + 1); exact Nat.one_le_two_pow
    | succ k =>
      show choose n k + choose n (k + 1) ≤ 2 ^ (n + 1)
      have h1 := ih k
      have h2 := ih (k + 1)
      rw [Nat.pow_succ]; omega
theorem choose_le8 {n : Nat} (k : Nat) (hn : n ≤ 8) : choose n k ≤ 256 := Nat.le_trans (choose_le n k) (Nat.pow_le_pow_right (by decide) hn)
theorem heavy_lt {n m b : Nat} (hn : n ≤ 8) (hb : b ≤ 99) : heavy n m b < 256 ^ (m + 1) := by
  induction m with
  | zero => rw [heavy_zero]; decide
  | succ m ih =>
    rw [heavy_succ, Nat.pow_succ]
    have h1 := choose_le8 (m + 1) hn
    have h2 : heavy n m b * b ≤ heavy n m b * 99 := Nat.mul_le_mul_left _ hb
    have h3 : 1 ≤ 256 ^ m := Nat.one_le_pow _ _ (by decide)
    have h4 : 256 ^ (m + 1) = 256 ^ m * 256 := Nat.pow_succ ..
    omega
theorem heavy_lt8 {n m b : Nat} (hn : n ≤ 8) (hm : m ≤ 8) (hb : b ≤ 99) : heavy n m b < 2 ^ 72 :=
  Nat.lt_of_lt_of_le (heavy_lt hn hb) (by rw [show (2 : Nat) ^ 72 = 256 ^ 9 by decide]; exact Nat.pow_le_pow_right (by decide) (by omega))
theorem ww_le {n : Nat} (m k : Nat) (hn : n ≤ 8) : ww n m k ≤ 256 := by
  have := choose_le8 (m + 1) hn
  unfold ww; omega
/-! ### daring -/
def daring (n m k b : Nat) : Int := ww (n - 1) (m - 1) k * heavy (n - 1) m b - ww (n - 1) m k * heavy (n - 1) (m - 1) b
def waiting (n m k b : Nat) : Int := ((b : Int) + 1) * heavy (n - 1) (m - 1) b * heavy (n - 1) m b + ww (n - 1) m (k - 1) * heavy (n - 1) (m - 1) b
theorem dare_pos (n m k : Nat) {b : Nat} (hb : 0 < b) : 0 < daring n m k b + waiting n m k b := by
  unfold daring waiting
  have h1 := ww_step (n - 1) m k b
  have h2 := ww_nonneg (n - 1) (m - 1) k
  have p1 : (0 : Int) < heavy (n - 1) (m - 1) b := by exact_mod_cast heavy_pos _ _ hb
  have p2 : (0 : Int) < heavy (n - 1) m b := by exact_mod_cast heavy_pos _ _ hb
  generalize (heavy (n - 1) (m - 1) b : Int) = L at *
  generalize (heavy (n - 1) m b : Int) = M at *
  generalize ww (n - 1) m k = A at *
  generalize ww (n - 1) m (k - 1) = B at *
  generalize ww (n - 1) (m - 1) k = C at *
  have q1 : 0 ≤ C * M := Int.mul_nonneg h2 (Int.le_of_lt p2)
  have q2 : A * L ≤ (B + M) * L := Int.mul_le_mul_of_nonneg_right h1 (Int.le_of_lt p1)
  have q3 : 0 < L * M := Int.mul_pos p1 p2
  have q4 : L * M ≤ (b : Int) * (L * M) := by
    have : (1 : Int) * (L * M) ≤ (b : Int) * (L * M) := Int.mul_le_mul_of_nonneg_right (by omega) (Int.le_of_lt q3)
    omega
  have e1 : (B + M) * L = B * L + L * M := by grind
  have e2 : ((b : Int) + 1) * L * M = (b : Int) * (L * M) + L * M := by grind
  omega
theorem dare_lt {n m b : Nat} (k : Nat) (hn : n ≤ 8) (hm : m ≤ 8) (hb : b ≤ 99) : (daring n m k b + waiting n m k b).toNat < 2 ^ 600 := by
  unfold daring waiting
  have h1 := ww_le (m - 1) k (show n - 1 ≤ 8 by omega)
  have h2 := ww_nonneg (n - 1) m k
  have h3 := ww_le m (k - 1) (show n - 1 ≤ 8 by omega)
  have l1 := heavy_lt8 (show n - 1 ≤ 8 by omega) (show m - 1 ≤ 8 by omega) hb
  have l2 := heavy_lt8 (show n - 1 ≤ 8 by omega) hm hb
  have c0 := ww_nonneg (n - 1) (m - 1) k
  have b0 := ww_nonneg (n - 1) m (k - 1)
  generalize ww (n - 1) m k = A at *
  generalize ww (n - 1) m (k - 1) = B at *
  generalize ww (n - 1) (m - 1) k = C at *
  generalize heavy (n - 1) (m - 1) b = L at *
  generalize heavy (n - 1) m b = M at *
  have q1 : C * M ≤ 256 * M := Int.mul_le_mul_of_nonneg_right h1 (by omega)
  have q2 : 0 ≤ A * (L : Int) := Int.mul_nonneg h2 (by omega)
  have q3 : B * L ≤ 256 * L := Int.mul_le_mul_of_nonneg_right h3 (by omega)
  have q4 : ((b : Int) + 1) * L ≤ 100 * L := Int.mul_le_mul_of_nonneg_right (by omega) (by omega)
  have q5 : ((b : Int) + 1) * L * M ≤ 100 * L * M := Int.mul_le_mul_of_nonneg_right q4 (by omega)
  have q6 : (L * M : Nat) < 2 ^ 72 * 2 ^ 72 := Nat.mul_lt_mul'' l1 l2
  have q7 : (100 : Int) * L * M = 100 * ((L * M : Nat) : Int) := by rw [Int.natCast_mul, Int.mul_assoc]
  have q8 : (2 : Nat) ^ 200 ≤ 2 ^ 600 := Nat.pow_le_pow_right (by decide) (by decide)
  refine Nat.lt_of_lt_of_le ?_ q8
  omega
theorem dare_eq {n m k b : Nat} (hn : 0 < n) (hm : 0 < m) (hk : 0 < k) (hb : 0 < b) : dare n m k b = red (daring n m k b) (daring n m k b + waiting n m k b).toNat := by
  have hp := dare_pos n m k hb
  unfold dare idle quiet unseen
  rw [if_neg (by omega), if_neg (by omega)]
  dsimp only
  rw [worth_R _ _ _ hb, worth_R _ _ _ hb, worth_R _ _ _ hb, whole_R, whole_R, add_R, sub_R, add_R, add_R]
  have p1 := nat_ne (Nat.pos_iff_ne_zero.mp (heavy_pos (n - 1) (m - 1) hb))
  have p2 := nat_ne (Nat.pos_iff_ne_zero.mp (heavy_pos (n - 1) m hb))
  have hT : ((daring n m k b + waiting n m k b).toNat : Int) = daring n m k b + waiting n m k b := by omega
  have e : worthR (n - 1) (m - 1) k b - worthR (n - 1) m k b + (((1 : Int) : Rat) + worthR (n - 1) m (k - 1) b + ((b : Int) : Rat)) = ((daring n m k b + waiting n m k b : Int) : Rat) / ((heavy (n - 1) (m - 1) b : Rat) * (heavy (n - 1) m b : Rat)) := by
    unfold daring waiting worthR
    simp only [Rat.intCast_add, Rat.intCast_sub, Rat.intCast_mul, Rat.intCast_natCast, Rat.intCast_one]
    grind
  have e' : worthR (n - 1) (m - 1) k b - worthR (n - 1) m k b = (daring n m k b : Rat) / ((heavy (n - 1) (m - 1) b : Rat) * (heavy (n - 1) m b : Rat)) := by
    unfold daring worthR
    simp only [Rat.intCast_sub, Rat.intCast_mul, Rat.intCast_natCast]
    grind
  have p0 : (0 : Rat) < ((daring n m k b + waiting n m k b : Int) : Rat) := by exact_mod_cast hp
  have pp : (0 : Rat) < (heavy (n - 1) (m - 1) b : Rat) * (heavy (n - 1) m b : Rat) := by
    have : 0 < heavy (n - 1) (m - 1) b * heavy (n - 1) m b := Nat.mul_pos (heavy_pos _ _ hb) (heavy_pos _ _ hb)
    exact_mod_cast this
  rw [div_R, red_eq (by omega), mk_div]
  · congr 1
    have hT' : (((daring n m k b + waiting n m k b).toNat : Nat) : Rat) = ((daring n m k b + waiting n m k b : Int) : Rat) := by
      rw [← Rat.intCast_natCast, hT]
    rw [e, e', hT']
    generalize ((daring n m k b + waiting n m k b : Int) : Rat) = T at *
    generalize (daring n m k b : Rat) = D at *
    generalize (heavy (n - 1) (m - 1) b : Rat) = L at *
    generalize (heavy (n - 1) m b : Rat) = M at *
    have : T ≠ 0 := by grind
    grind
  · rw [e]
    rw [Rat.div_def]
    exact Rat.mul_pos p0 (Rat.inv_pos.mpr pp)
end Wl

set_option Elab.async false
set_option maxHeartbeats 2000000
/-! The specification in rationals. -/
namespace Wl
open Kp317
theorem hR {n m b : Nat} (h : 0 < b) : (heavy n m b : Rat) ≠ 0 := nat_ne (Nat.pos_iff_ne_zero.mp (heavy_pos n m h))
theorem heavy_pascal (n m b : Nat) : heavy (n + 1) (m + 1) b = heavy n m b + heavy n (m + 1) b := by
  induction m with
  | zero =>
    rw [heavy_succ, heavy_succ, heavy_zero, heavy_zero]
    show 1 * b + (choose n 0 + choose n 1) = 1 + (1 * b + choose n 1)
    have : choose n 0 = 1 := by cases n <;> rfl
    omega
  | succ m ih =>
    have h1 := heavy_succ (n + 1) (m + 1) b
    have h2 := heavy_succ n m b
    have h3 := heavy_succ n (m + 1) b
    have h4 := show choose (n + 1) (m + 1 + 1) = choose n (m + 1) + choose n (m + 1 + 1) from rfl
    rw [h1, h3, ih, h4, h2]
    grind
def lookR (n m b : Nat) : Rat := if n = 0 ∨ m = 0 then 0 else (heavy (n - 1) (m - 1) b : Rat) / (heavy n m b : Rat)
theorem look_R (n m : Nat) {b : Nat} (h : 0 < b) : look n m b = ofR (lookR n m b) := by
  unfold look lookR
  split
  · rfl
  · rw [red_eq (Nat.pos_iff_ne_zero.mp (heavy_pos n m h)), mk_div, Rat.intCast_natCast]
theorem lookR_zero (n b : Nat) : lookR n 0 b = 0 := by unfold lookR; rw [if_pos (Or.inr rfl)]
theorem lookR_succ (n m b : Nat) : lookR (n + 1) (m + 1) b = (heavy n m b : Rat) / (heavy (n + 1) (m + 1) b : Rat) := by
  unfold lookR; rw [if_neg (by omega)]; rfl
theorem lookR_not (n m : Nat) {b : Nat} (h : 0 < b) : 1 - lookR (n + 1) (m + 1) b = (heavy n (m + 1) b : Rat) / (heavy (n + 1) (m + 1) b : Rat) := by
  rw [lookR_succ]
  have e : (heavy (n + 1) (m + 1) b : Rat) = (heavy n m b : Rat) + (heavy n (m + 1) b : Rat) := by rw [heavy_pascal, Rat.natCast_add]
  have := hR (n := n + 1) (m := m + 1) h
  rw [e] at this ⊢
  grind
theorem sub1_R (r : Rat) : sub (whole 1) (ofR r) = ofR (1 - r) := by
  rw [whole_R, sub_R]; rfl
theorem mix_R (x p q : Rat) : mix (ofR x) (ofR p) (ofR q) = ofR (x * p + (1 - x) * q) := by
  unfold mix
  rw [sub1_R, mul_R, mul_R, add_R]
theorem greater_R (r s : Rat) : greater (ofR r) (ofR s) = ofR (if r < s then s else r) := by
  unfold greater
  rw [less_R]
  by_cases h : r < s
  · rw [decide_eq_true h, if_pos rfl, if_pos h]
  · rw [decide_eq_false h, if_neg h]; rfl
/-! ### day t is looked at -/
theorem looked_R {b : Nat} (h : 0 < b) : ∀ (t n m : Nat), t < n → lookedUp b n m t = ofR (lookR n m b)
  | 0, n, m, _ => by
    have : lookedUp b n m 0 = look n m b := by cases n <;> rfl
    rw [this, look_R n m h]
  | t + 1, 0, m, q => absurd q (by omega)
  | t + 1, n + 1, 0, q => by
    show add (0, 1) (mul (sub (whole 1) (look (n + 1) 0 b)) (lookedUp b n 0 t)) = _
    rw [look_R _ _ h, looked_R h t n 0 (by omega), sub1_R, mul_R, zero_R, add_R, lookR_zero, lookR_zero]
    congr 1
    grind
  | t + 1, n + 1, m + 1, q => by
    show add (mul (look (n + 1) (m + 1) b) (lookedUp b n m t)) (mul (sub (whole 1) (look (n + 1) (m + 1) b)) (lookedUp b n (m + 1) t)) = _
    rw [look_R _ _ h, looked_R h t n m (by omega), looked_R h t n (m + 1) (by omega), sub1_R, mul_R, mul_R, add_R, lookR_not n m h, lookR_succ]
    congr 1
    obtain ⟨n, rfl⟩ : ∃ n', n = n' + 1 := ⟨n - 1, by omega⟩
    have p1 := hR (n := n + 1 + 1) (m := m + 1) h
    have p2 := hR (n := n + 1) (m := m) h
    have p3 := hR (n := n + 1) (m := m + 1) h
    rw [lookR_succ]
    cases m with
    | zero =>
      rw [lookR_zero, heavy_zero, heavy_zero]
      grind
    | succ m =>
      rw [lookR_succ]
      have e : (heavy (n + 1) (m + 1) b : Rat) = (heavy n m b : Rat) + (heavy n (m + 1) b : Rat) := by rw [heavy_pascal, Rat.natCast_add]
      generalize (heavy (n + 1 + 1) (m + 1 + 1) b : Rat) = A at *
      generalize (heavy (n + 1) (m + 1 + 1) b : Rat) = B at *
      generalize (heavy (n + 1) (m + 1) b : Rat) = D at *
      subst e
      grind
/-! ### looks left in the end -/
theorem heavy_none (m b : Nat) : heavy 0 m b = b ^ m := by
  induction m with
  | zero => rw [heavy_zero]; rfl
  | succ m ih => rw [heavy_succ, ih, Nat.pow_succ]; rfl
theorem choose_n0 (n : Nat) : choose n 0 = 1 := by cases n <;> rfl
def leftR (b n m j : Nat) : Rat := if m < j then 0 else ((choose n (m - j) * b ^ j : Nat) : Rat) / (heavy n m b : Rat)
theorem left_R {b : Nat} (h : 0 < b) : ∀ (n m j : Nat), leftUp b n m j = ofR (leftR b n m j)
  | 0, m, j => by
    show (if m = j then ((1, 1) : Q) else (0, 1)) = _
    unfold leftR
    by_cases e : m = j
    · subst e
      rw [if_pos rfl, if_neg (by omega), Nat.sub_self, choose_n0, Nat.one_mul, heavy_none, one_R]
      congr 1
      have := nat_ne (show b ^ m ≠ 0 from Nat.pos_iff_ne_zero.mp (Nat.pow_pos h))
      grind
    · rw [if_neg e]
      by_cases l : m < j
      · rw [if_pos l]; rfl
      · rw [if_neg l]
        obtain ⟨d, hd⟩ : ∃ d, m - j = d + 1 := ⟨m - j - 1, by omega⟩
        rw [hd]
        show _ = ofR (((0 * b ^ j : Nat) : Rat) / _)
        rw [Nat.zero_mul, zero_R]
        congr 1
        show 0 = (0 : Rat) / _
        grind
  | n + 1, 0, j => by
    show add (0, 1) (mul (sub (whole 1) (look (n + 1) 0 b)) (leftUp b n 0 j)) = _
    rw [look_R _ _ h, left_R h n 0 j, sub1_R, mul_R, zero_R, add_R, lookR_zero]
    congr 1
    unfold leftR
    rw [heavy_zero, heavy_zero, Nat.zero_sub, choose_n0, choose_n0]
    grind
  | n + 1, m + 1, j => by
    show add (mul (look (n + 1) (m + 1) b) (leftUp b n m j)) (mul (sub (whole 1) (look (n + 1) (m + 1) b)) (leftUp b n (m + 1) j)) = _
    rw [look_R _ _ h, left_R h n m j, left_R h n (m + 1) j, sub1_R, mul_R, mul_R, add_R, lookR_not n m h, lookR_succ]
    congr 1
    have p1 := hR (n := n + 1) (m := m + 1) h
    have p2 := hR (n := n) (m := m) h
    have p3 := hR (n := n) (m := m + 1) h
    unfold leftR
    by_cases l : m + 1 < j
    · rw [if_pos (show m < j by omega), if_pos l, if_pos l]; grind
    · rw [if_neg l, if_neg l]
      by_cases l2 : m < j
      · rw [if_pos l2]
        have : m + 1 - j = 0 := by omega
        rw [this, choose_n0, choose_n0]
        grind
      · rw [if_neg l2]
        have e : m + 1 - j = (m - j) + 1 := by omega
        rw [e]
        have e2 : ((choose (n + 1) (m - j + 1) * b ^ j : Nat) : Rat) = ((choose n (m - j) * b ^ j : Nat) : Rat) + ((choose n (m - j + 1) * b ^ j : Nat) : Rat) := by
          rw [← Rat.natCast_add, ← Nat.add_mul]; rfl
        rw [e2]
        grind
/-! ### daring, being caught, what is done -/
def dareR (n m k b : Nat) : Rat := if n = 0 ∨ k = 0 then 0 else if m = 0 then 1 else (daring n m k b : Rat) / ((daring n m k b + waiting n m k b : Int) : Rat)
theorem dare_R (n m k : Nat) {b : Nat} (h : 0 < b) : dare n m k b = ofR (dareR n m k b) := by
  unfold dareR
  by_cases c : n = 0 ∨ k = 0
  · unfold dare; rw [if_pos c, if_pos c]; rfl
  · by_cases c1 : m = 0
    · unfold dare; rw [if_neg c, if_neg c, if_pos c1, if_pos c1]; rfl
    · rw [if_neg c, if_neg c1, dare_eq (by omega) (by omega) (by omega) h]
      have hp := dare_pos n m k h
      rw [red_eq (by omega), mk_div]
      have hT : ((daring n m k b + waiting n m k b).toNat : Int) = daring n m k b + waiting n m k b := by omega
      have hT' : (((daring n m k b + waiting n m k b).toNat : Nat) : Rat) = ((daring n m k b + waiting n m k b : Int) : Rat) := by
        rw [← Rat.intCast_natCast, hT]
      rw [hT']
def caughtR (b : Nat) : Nat → Nat → Nat → Rat
  | 0, _, _ => 0
  | n + 1, m, k => if k = 0 then 0 else
    lookR (n + 1) m b * dareR (n + 1) m k b + (if m = 0 then 0 else lookR (n + 1) m b * (1 - dareR (n + 1) m k b) * caughtR b n (m - 1) k)
      + ((1 - lookR (n + 1) m b) * dareR (n + 1) m k b * caughtR b n m (k - 1) + (1 - lookR (n + 1) m b) * (1 - dareR (n + 1) m k b) * caughtR b n m k)
theorem caught_R {b : Nat} (h : 0 < b) : ∀ (n m k : Nat), caughtUp b n m k = ofR (caughtR b n m k)
  | 0, _, _ => rfl
  | n + 1, m, k => by
    unfold caughtUp caughtR
    by_cases c : k = 0
    · rw [if_pos c, if_pos c]; rfl
    · rw [if_neg c, if_neg c]
      dsimp only
      rw [look_R _ _ h, dare_R _ _ _ h, caught_R h n (m - 1) k, caught_R h n m (k - 1), caught_R h n m k, sub1_R, sub1_R]
      by_cases c1 : m = 0
      · rw [if_pos c1, if_pos c1, zero_R]
        simp only [mul_R, add_R]
      · rw [if_neg c1, if_neg c1]
        simp only [mul_R, add_R]
def doneR (b : Nat) : Nat → Nat → Nat → Rat
  | 0, _, _ => 0
  | n + 1, m, k => if k = 0 then 0 else
    (if m = 0 then 0 else lookR (n + 1) m b * (1 - dareR (n + 1) m k b) * doneR b n (m - 1) k)
      + ((1 - lookR (n + 1) m b) * dareR (n + 1) m k b * (1 + doneR b n m (k - 1)) + (1 - lookR (n + 1) m b) * (1 - dareR (n + 1) m k b) * doneR b n m k)
theorem done_R {b : Nat} (h : 0 < b) : ∀ (n m k : Nat), doneUp b n m k = ofR (doneR b n m k)
  | 0, _, _ => rfl
  | n + 1, m, k => by
    unfold doneUp doneR
    by_cases c : k = 0
    · rw [if_pos c, if_pos c]; rfl
    · rw [if_neg c, if_neg c]
      dsimp only
      rw [look_R _ _ h, dare_R _ _ _ h, done_R h n (m - 1) k, done_R h n m (k - 1), done_R h n m k, sub1_R, sub1_R, whole_R]
      by_cases c1 : m = 0
      · rw [if_pos c1, if_pos c1, zero_R]
        simp only [mul_R, add_R]
        rfl
      · rw [if_neg c1, if_neg c1]
        simp only [mul_R, add_R]
        rfl
/-! ### the game: dared or not, it is worth the same -/
theorem ww_dare (n m k : Nat) : ww (n + 1) m (k + 1) = choose n m + ww n m k := by
  unfold ww
  rw [show n + 1 - (k + 1) = n - k by omega]
  have := show choose (n + 1) (m + 1) = choose n m + choose n (m + 1) from rfl
  omega
theorem ww_wait (n m k : Nat) : ww (n + 1) (m + 1) k = ww n m k + ww n (m + 1) k := by
  unfold ww
  have h1 := show choose (n + 1) (m + 1 + 1) = choose n (m + 1) + choose n (m + 1 + 1) from rfl
  by_cases c : k ≤ n
  · rw [show n + 1 - k = (n - k) + 1 by omega]
    have h2 := show choose (n - k + 1) (m + 1 + 1) = choose (n - k) (m + 1) + choose (n - k) (m + 1 + 1) from rfl
    omega
  · rw [show n + 1 - k = 0 by omega, show n - k = 0 by omega]
    have h2 : choose 0 (m + 1 + 1) = 0 := rfl
    have h3 : choose 0 (m + 1) = 0 := rfl
    omega
theorem game_dare (n m k : Nat) {b : Nat} (h : 0 < b) : worthR (n + 1) (m + 1) (k + 1) b = lookR (n + 1) (m + 1) b * (-(b : Rat)) + (1 - lookR (n + 1) (m + 1) b) * (1 + worthR n (m + 1) k b) := by
  rw [lookR_not n m h, lookR_succ]
  unfold worthR
  have p1 := hR (n := n + 1) (m := m + 1) h
  have p3 := hR (n := n) (m := m + 1) h
  have e1 : (heavy n (m + 1) b : Rat) = (heavy n m b : Rat) * (b : Rat) + (choose n (m + 1) : Rat) := by rw [heavy_succ, Rat.natCast_add, Rat.natCast_mul]
  have e2 : (ww (n + 1) (m + 1) (k + 1) : Rat) = (choose n (m + 1) : Rat) + (ww n (m + 1) k : Rat) := by rw [ww_dare, Rat.intCast_add, Rat.intCast_natCast]
  rw [e2]
  generalize (heavy (n + 1) (m + 1) b : Rat) = A at *
  generalize (heavy n (m + 1) b : Rat) = B at *
  generalize (heavy n m b : Rat) = D at *
  generalize (choose n (m + 1) : Rat) = c at *
  have : c = B - D * b := by grind
  subst this
  grind
theorem game_wait (n m k : Nat) {b : Nat} (h : 0 < b) : worthR (n + 1) (m + 1) k b = lookR (n + 1) (m + 1) b * worthR n m k b + (1 - lookR (n + 1) (m + 1) b) * worthR n (m + 1) k b := by
  rw [lookR_not n m h, lookR_succ]
  unfold worthR
  have p1 := hR (n := n + 1) (m := m + 1) h
  have p2 := hR (n := n) (m := m) h
  have p3 := hR (n := n) (m := m + 1) h
  rw [ww_wait, Rat.intCast_add]
  grind
theorem game_free (n k : Nat) (b : Nat) : worthR (n + 1) 0 (k + 1) b = 1 + worthR n 0 k b := by
  unfold worthR
  rw [heavy_zero, heavy_zero, ww_dare, choose_n0, Rat.intCast_add]
  have : (((1 : Nat) : Int) : Rat) = 1 := rfl
  rw [this]
  grind
theorem worthR_none (n m b : Nat) : worthR n m 0 b = 0 := by
  unfold worthR; rw [ww_zero]
  show (0 : Rat) / _ = 0
  grind
theorem worthR_nodays (m k b : Nat) : worthR 0 m k b = 0 := by
  have : ww 0 m k = 0 := by
    unfold ww
    rw [Nat.zero_sub]; omega
  unfold worthR; rw [this]
  show (0 : Rat) / _ = 0
  grind
/-- what it's worth is what's done unseen, less the fine as often as the other's caught -/
theorem worth_done {b : Nat} (h : 0 < b) : ∀ (n m k : Nat), worthR n m k b = doneR b n m k - (b : Rat) * caughtR b n m k
  | 0, m, k => by
    rw [worthR_nodays]
    unfold doneR caughtR
    grind
  | n + 1, m, 0 => by
    rw [worthR_none]
    unfold doneR caughtR
    rw [if_pos rfl, if_pos rfl]
    grind
  | n + 1, 0, k + 1 => by
    have i1 := worth_done h n 0 k
    unfold doneR caughtR
    have hk : ¬ k + 1 = 0 := by omega
    rw [if_neg hk, if_neg hk, if_pos (show (0 : Nat) = 0 from rfl), if_pos (show (0 : Nat) = 0 from rfl), lookR_zero, game_free]
    have e : dareR (n + 1) 0 (k + 1) b = 1 := by unfold dareR; rw [if_neg (by omega), if_pos rfl]
    rw [e, i1]
    show 1 + (doneR b n 0 k - b * caughtR b n 0 k) = 0 + ((1 - 0) * 1 * (1 + doneR b n 0 k) + (1 - 0) * (1 - 1) * doneR b n 0 (k + 1)) - b * (0 * 1 + 0 + ((1 - 0) * 1 * caughtR b n 0 k + (1 - 0) * (1 - 1) * caughtR b n 0 (k + 1)))
    grind
  | n + 1, m + 1, k + 1 => by
    have i1 := worth_done h n m (k + 1)
    have i2 := worth_done h n (m + 1) k
    have i3 := worth_done h n (m + 1) (k + 1)
    have g1 := game_dare n m k h
    have g2 := game_wait n m (k + 1) h
    unfold doneR caughtR
    rw [if_neg (by omega), if_neg (by omega), if_neg (by omega), if_neg (by omega)]
    show _ = lookR (n + 1) (m + 1) b * (1 - dareR (n + 1) (m + 1) (k + 1) b) * doneR b n m (k + 1) + ((1 - lookR (n + 1) (m + 1) b) * dareR (n + 1) (m + 1) (k + 1) b * (1 + doneR b n (m + 1) k) + (1 - lookR (n + 1) (m + 1) b) * (1 - dareR (n + 1) (m + 1) (k + 1) b) * doneR b n (m + 1) (k + 1)) - b * (lookR (n + 1) (m + 1) b * dareR (n + 1) (m + 1) (k + 1) b + lookR (n + 1) (m + 1) b * (1 - dareR (n + 1) (m + 1) (k + 1) b) * caughtR b n m (k + 1) + ((1 - lookR (n + 1) (m + 1) b) * dareR (n + 1) (m + 1) (k + 1) b * caughtR b n (m + 1) k + (1 - lookR (n + 1) (m + 1) b) * (1 - dareR (n + 1) (m + 1) (k + 1) b) * caughtR b n (m + 1) (k + 1)))
    rw [i1, i3] at g2
    rw [i2] at g1
    generalize lookR (n + 1) (m + 1) b = x at *
    generalize dareR (n + 1) (m + 1) (k + 1) b = y at *
    generalize worthR (n + 1) (m + 1) (k + 1) b = V at *
    generalize doneR b n m (k + 1) = d1 at *
    generalize doneR b n (m + 1) k = d2 at *
    generalize doneR b n (m + 1) (k + 1) = d3 at *
    generalize caughtR b n m (k + 1) = c1 at *
    generalize caughtR b n (m + 1) k = c2 at *
    generalize caughtR b n (m + 1) (k + 1) = c3 at *
    generalize (b : Rat) = f at *
    have : V = y * V + (1 - y) * V := by grind
    rw [this]
    conv => lhs; lhs; rw [g1]
    conv => lhs; rhs; rw [g2]
    grind
/-! ### worth below 1 by q -/
theorem less_red (a : Int) {h : Nat} (q : Nat) (hh : 0 < h) : less (red a h) (1, q) = decide (a * q < h) := by
  show decide (a / (Nat.gcd a.natAbs h : Nat) * (q : Int) < 1 * ((h / Nat.gcd a.natAbs h : Nat) : Int)) = _
  rw [decide_eq_decide]
  have g0 : 0 < Nat.gcd a.natAbs h := Nat.gcd_pos_of_pos_right _ hh
  have d1 : ((Nat.gcd a.natAbs h : Nat) : Int) ∣ a := Int.ofNat_dvd_left.mpr (Nat.gcd_dvd_left _ _)
  have d2 : Nat.gcd a.natAbs h ∣ h := Nat.gcd_dvd_right _ _
  obtain ⟨x, hx⟩ := d1
  obtain ⟨y, hy⟩ := d2
  generalize Nat.gcd a.natAbs h = g at *
  subst hx
  have e2 : h / g = y := by rw [hy, Nat.mul_div_cancel_left _ g0]
  have e1 : (g : Int) * x / (g : Int) = x := Int.mul_ediv_cancel_left _ (by omega)
  rw [e1, e2, hy, Int.one_mul, Int.natCast_mul, Int.mul_assoc]
  have gp : (0 : Int) < g := by omega
  exact (Int.mul_lt_mul_left gp).symm
theorem less_worth (n m k q : Nat) {b : Nat} (h : 0 < b) : less (worth n m k b) (1, q) = decide (ww n m k * q < heavy n m b) := by
  rw [worth_ww]
  exact less_red _ q (heavy_pos n m h)
end Wl

set_option Elab.async false
set_option maxRecDepth 100000
set_option maxHeartbeats 4000000
/-! The chances of being caught, as a table: how great its numbers are. -/
namespace Wl
open Kp317
def qAt (t : List (List Q)) (m k : Nat) : Q := (t.getD m []).getD k (0, 1)
/-- one day more -/
def stepQ (b n m k : Nat) (t : List (List Q)) : Q :=
  if k = 0 ∨ m = 0 then (0, 1) else
    let x := look (n + 1) m b
    let y := dare (n + 1) m k b
    mix y (mix x (1, 1) (qAt t m (k - 1))) (mix x (qAt t (m - 1) k) (qAt t m k))
def nine : List Nat := [0, 1, 2, 3, 4, 5, 6, 7, 8]
def tabUp (b n : Nat) (t : List (List Q)) : List (List Q) := nine.map fun m => nine.map fun k => stepQ b n m k t
def tab (b : Nat) : Nat → List (List Q)
  | 0 => []
  | n + 1 => tabUp b n (tab b n)
def small (x : Q) : Bool := decide (x.1.natAbs < 2 ^ 63) && decide (x.2 < 2 ^ 63)
def allSmall (b n : Nat) : Bool := (tab b n).all fun r => r.all small
theorem small_all : (([1, 2, 3, 4, 5, 6, 7, 8, 9] : List Nat).all fun b => (nine.all fun n => allSmall b n)) = true := by decide +kernel
theorem nine_at {α : Type} (f : Nat → α) (d : α) : ∀ m : Nat, m ≤ 8 → (nine.map f).getD m d = f m
  | 0, _ => rfl | 1, _ => rfl | 2, _ => rfl | 3, _ => rfl | 4, _ => rfl | 5, _ => rfl | 6, _ => rfl | 7, _ => rfl | 8, _ => rfl
  | m + 9, h => absurd h (by omega)
theorem nine_mem : ∀ m : Nat, m ≤ 8 → m ∈ nine := by decide
theorem tab_at (b n : Nat) {m k : Nat} (hm : m ≤ 8) (hk : k ≤ 8) : qAt (tab b (n + 1)) m k = stepQ b n m k (tab b n) := by
  show ((nine.map fun m => nine.map fun k => stepQ b n m k (tab b n)).getD m []).getD k (0, 1) = _
  rw [nine_at _ _ m hm, nine_at _ _ k hk]
theorem caught_looks {b : Nat} : ∀ (n k : Nat), caughtR b n 0 k = 0
  | 0, _ => rfl
  | n + 1, k => by
    unfold caughtR
    split
    · rfl
    · rw [lookR_zero, if_pos rfl, caught_looks n (k - 1), caught_looks n k]
      grind
theorem caught_misdeeds {b : Nat} (n m : Nat) : caughtR b n m 0 = 0 := by
  cases n with
  | zero => rfl
  | succ n => unfold caughtR; rw [if_pos rfl]
theorem caught_step (b n m k : Nat) (hm : m ≠ 0) (hk : k ≠ 0) :
    caughtR b (n + 1) m k = dareR (n + 1) m k b * (lookR (n + 1) m b * 1 + (1 - lookR (n + 1) m b) * caughtR b n m (k - 1)) + (1 - dareR (n + 1) m k b) * (lookR (n + 1) m b * caughtR b n (m - 1) k + (1 - lookR (n + 1) m b) * caughtR b n m k) := by
  conv => lhs; unfold caughtR
  rw [if_neg hk, if_neg hm]
  generalize lookR (n + 1) m b = x
  generalize dareR (n + 1) m k b = y
  generalize caughtR b n m (k - 1) = c1
  generalize caughtR b n (m - 1) k = c2
  generalize caughtR b n m k = c3
  grind
theorem tab_R {b : Nat} (h : 0 < b) : ∀ (n m k : Nat), m ≤ 8 → k ≤ 8 → qAt (tab b n) m k = ofR (caughtR b n m k)
  | 0, _, _, _, _ => rfl
  | n + 1, m, k, hm, hk => by
    rw [tab_at b n hm hk]
    unfold stepQ
    by_cases c : k = 0 ∨ m = 0
    · rw [if_pos c, zero_R]
      rcases c with rfl | rfl
      · rw [caught_misdeeds]
      · rw [caught_looks]
    · rw [if_neg c]
      dsimp only
      rw [look_R _ _ h, dare_R _ _ _ h, one_R, tab_R h n m (k - 1) hm (by omega), tab_R h n (m - 1) k (by omega) hk, tab_R h n m k hm hk, mix_R, mix_R, mix_R, caught_step b n m k (by omega) (by omega)]
theorem small_tab {b n m k : Nat} (h0 : 0 < b) (h9 : b ≤ 9) (hn : n ≤ 8) : small (qAt (tab b n) m k) = true := by
  have hb : b ∈ ([1, 2, 3, 4, 5, 6, 7, 8, 9] : List Nat) := by
    have : ∀ b : Nat, b ≤ 9 → 0 < b → b ∈ ([1, 2, 3, 4, 5, 6, 7, 8, 9] : List Nat) := by decide
    exact this b h9 h0
  have h1 := List.all_eq_true.mp small_all b hb
  have h2 := List.all_eq_true.mp h1 n (nine_mem n hn)
  unfold qAt
  by_cases c : m < (tab b n).length
  · have e : (tab b n).getD m [] = (tab b n)[m] := by simp [List.getD, c]
    rw [e]
    have h3 := List.all_eq_true.mp h2 _ (List.getElem_mem c)
    by_cases c2 : k < (tab b n)[m].length
    · have e : (tab b n)[m].getD k (0, 1) = (tab b n)[m][k] := by simp [List.getD, c2]
      rw [e]
      exact List.all_eq_true.mp h3 _ (List.getElem_mem c2)
    · have e : (tab b n)[m].getD k (0, 1) = (0, 1) := by simp [List.getD, List.getElem?_eq_none (Nat.le_of_not_lt c2)]
      rw [e]; decide
  · have e : (tab b n).getD m [] = [] := by simp [List.getD, List.getElem?_eq_none (Nat.le_of_not_lt c)]
    rw [e]; rfl
theorem caught_small {b n m k : Nat} (h0 : 0 < b) (h9 : b ≤ 9) (hn : n ≤ 8) (hm : m ≤ 8) (hk : k ≤ 8) : (caughtUp b n m k).1.natAbs < 2 ^ 63 ∧ (caughtUp b n m k).2 < 2 ^ 63 := by
  have h := small_tab (m := m) (k := k) h0 h9 hn
  rw [tab_R h0 n m k hm hk, ← caught_R h0] at h
  unfold small at h
  rw [Bool.and_eq_true] at h
  exact ⟨of_decide_eq_true h.1, of_decide_eq_true h.2⟩
end Wl

set_option Elab.async false
set_option maxRecDepth 100000
set_option maxHeartbeats 4000000
/-! Fractions as the program reckons with them. -/
namespace Wl
open Kp317
/-- a fraction's numbers, and how great they are -/
def Fr (s : Nat) (x : Q) : Prop := 0 < x.2 ∧ x.2 < 2 ^ s ∧ x.1.natAbs < 2 ^ s
theorem pow_mono {a b x : Nat} (h : x < 2 ^ a) (hab : a ≤ b) : x < 2 ^ b := Nat.lt_of_lt_of_le h (Nat.pow_le_pow_right (by decide) hab)
theorem Fr.mono {a b : Nat} {x : Q} (h : Fr a x) (hab : a ≤ b) : Fr b x := ⟨h.1, pow_mono h.2.1 hab, pow_mono h.2.2 hab⟩
theorem natAbs_div_le (a : Int) (g : Nat) : (a / (g : Int)).natAbs ≤ a.natAbs := Int.natAbs_ediv_le_natAbs a g
theorem fr_red {s : Nat} {a : Int} {b : Nat} (h : Fr s (a, b)) : Fr s (red a b) := by
  obtain ⟨h1, h2, h3⟩ := h
  have g0 : 0 < Nat.gcd a.natAbs b := Nat.gcd_pos_of_pos_right _ h1
  refine ⟨?_, ?_, ?_⟩
  · show 0 < b / Nat.gcd a.natAbs b
    exact Nat.div_pos (Nat.gcd_le_right _ h1) g0
  · show b / Nat.gcd a.natAbs b < 2 ^ s
    exact Nat.lt_of_le_of_lt (Nat.div_le_self _ _) h2
  · show (a / (Nat.gcd a.natAbs b : Nat)).natAbs < 2 ^ s
    exact Nat.lt_of_le_of_lt (natAbs_div_le _ _) h3
def qv (x : Q) : Rat := mkRat x.1 x.2
theorem qv_ofR (r : Rat) : qv (ofR r) = r := mk_ofR r
theorem qv_div (x : Q) : qv x = (x.1 : Rat) / (x.2 : Rat) := mk_div ..
/-- what comes in the mean -/
def mixA (c f s : Q) : Int := c.1 * f.1 * (s.2 : Int) + ((c.2 : Int) - c.1) * s.1 * (f.2 : Int)
def mixQ (c f s : Q) : Q := red (mixA c f s) (c.2 * f.2 * s.2)
theorem mixQ_R {c f s : Q} (hc : 0 < c.2) (hf : 0 < f.2) (hs : 0 < s.2) : mixQ c f s = ofR (qv c * qv f + (1 - qv c) * qv s) := by
  unfold mixQ mixA
  rw [red_eq (Nat.pos_iff_ne_zero.mp (Nat.mul_pos (Nat.mul_pos hc hf) hs)), mk_div]
  congr 1
  rw [qv_div, qv_div, qv_div]
  have p1 := nat_ne (Nat.pos_iff_ne_zero.mp hc)
  have p2 := nat_ne (Nat.pos_iff_ne_zero.mp hf)
  have p3 := nat_ne (Nat.pos_iff_ne_zero.mp hs)
  simp only [Rat.intCast_add, Rat.intCast_sub, Rat.intCast_mul, Rat.intCast_natCast, Rat.natCast_mul]
  generalize (c.1 : Rat) = c1 at *
  generalize (c.2 : Rat) = c2 at *
  generalize (f.1 : Rat) = f1 at *
  generalize (f.2 : Rat) = f2 at *
  generalize (s.1 : Rat) = s1 at *
  generalize (s.2 : Rat) = s2 at *
  grind
theorem mul_pow {i j : Int} {a b : Nat} (ha : i.natAbs < 2 ^ a) (hb : j.natAbs < 2 ^ b) : (i * j).natAbs < 2 ^ (a + b) := by
  rw [Int.natAbs_mul, Nat.pow_add]
  exact Nat.mul_lt_mul'' ha hb
theorem nat_pow {i a : Nat} (ha : i < 2 ^ a) : (i : Int).natAbs < 2 ^ a := by rw [Int.natAbs_natCast]; exact ha
theorem sub_pow {i j : Int} {a : Nat} (ha : i.natAbs < 2 ^ a) (hb : j.natAbs < 2 ^ a) : (i - j).natAbs < 2 ^ (a + 1) := by
  rw [Nat.pow_succ]; omega
theorem add_pow {i j : Int} {a : Nat} (ha : i.natAbs < 2 ^ a) (hb : j.natAbs < 2 ^ a) : (i + j).natAbs < 2 ^ (a + 1) := by
  rw [Nat.pow_succ]; omega
theorem fr_mixU {a b d : Nat} {c f s : Q} (hc : Fr a c) (hf : Fr b f) (hs : Fr d s) : Fr (a + b + d + 2) (mixA c f s, c.2 * f.2 * s.2) := by
  refine ⟨Nat.mul_pos (Nat.mul_pos hc.1 hf.1) hs.1, ?_, ?_⟩
  · have h1 : c.2 * f.2 < 2 ^ a * 2 ^ b := Nat.mul_lt_mul'' hc.2.1 hf.2.1
    have h2 : c.2 * f.2 * s.2 < 2 ^ a * 2 ^ b * 2 ^ d := Nat.mul_lt_mul'' h1 hs.2.1
    rw [← Nat.pow_add, ← Nat.pow_add] at h2
    exact pow_mono h2 (by omega)
  · have h1 := mul_pow (mul_pow hc.2.2 hf.2.2) (nat_pow hs.2.1)
    have h2 := mul_pow (mul_pow (sub_pow (nat_pow hc.2.1) hc.2.2) hs.2.2) (nat_pow hf.2.1)
    have h3 := add_pow (pow_mono h1 (show a + b + d ≤ a + b + d + 1 by omega)) (pow_mono h2 (show a + 1 + d + b ≤ a + b + d + 1 by omega))
    exact h3
theorem fr_mix {a b d : Nat} {c f s : Q} (hc : Fr a c) (hf : Fr b f) (hs : Fr d s) : Fr (a + b + d + 2) (mixQ c f s) := fr_red (fr_mixU hc hf hs)
/-- one more -/
def oneQ (x : Q) : Q := (x.1 + x.2, x.2)
theorem oneQ_R {x : Q} (h : 0 < x.2) : qv (oneQ x) = 1 + qv x := by
  rw [qv_div, qv_div]
  have := nat_ne (Nat.pos_iff_ne_zero.mp h)
  show ((x.1 + (x.2 : Int) : Int) : Rat) / (x.2 : Rat) = _
  rw [Rat.intCast_add, Rat.intCast_natCast]
  grind
theorem fr_one {a : Nat} {x : Q} (h : Fr a x) : Fr (a + 1) (oneQ x) := ⟨h.1, pow_mono h.2.1 (by omega), add_pow h.2.2 (nat_pow h.2.1)⟩
/-! ### how great the fractions are -/
theorem fr_worth {n m k b : Nat} (hn : n ≤ 8) (hm : m ≤ 8) (hb : 0 < b) (hb2 : b ≤ 99) : Fr 72 (worth n m k b) := by
  refine fr_red ⟨heavy_pos n m hb, heavy_lt8 hn hm hb2, ?_⟩
  have h1 := ww_le m k hn
  have h2 := ww_nonneg n m k
  refine pow_mono (a := 9) ?_ (by decide)
  show (ww n m k).natAbs < _
  omega
theorem fr_small {s : Nat} (hs : 0 < s) : Fr s (0, 1) ∧ Fr s (1, 1) := by
  have : (1 : Nat) < 2 ^ s := Nat.one_lt_two_pow (by omega)
  exact ⟨⟨by decide, this, Nat.lt_of_le_of_lt (by decide) this⟩, ⟨by decide, this, this⟩⟩
theorem fr_look {n m b : Nat} (hn : n ≤ 8) (hm : m ≤ 8) (hb : 0 < b) (hb2 : b ≤ 99) : Fr 72 (look n m b) := by
  unfold look
  split
  · exact (fr_small (by decide)).1
  · refine fr_red ⟨heavy_pos n m hb, heavy_lt8 hn hm hb2, nat_pow (heavy_lt8 (by omega) (by omega) hb2)⟩
theorem dare_lt2 {n m b : Nat} (k : Nat) (hn : n ≤ 8) (hm : m ≤ 8) (hb : b ≤ 99) (h0 : 0 < b) : Fr 200 (daring n m k b, (daring n m k b + waiting n m k b).toNat) := by
  have hp := dare_pos n m k h0
  refine ⟨by show 0 < (daring n m k b + waiting n m k b).toNat; omega, ?_, ?_⟩
  · show (daring n m k b + waiting n m k b).toNat < 2 ^ 200
    unfold daring waiting
    have h1 := ww_le (m - 1) k (show n - 1 ≤ 8 by omega)
    have h2 := ww_nonneg (n - 1) m k
    have h3 := ww_le m (k - 1) (show n - 1 ≤ 8 by omega)
    have l1 := heavy_lt8 (show n - 1 ≤ 8 by omega) (show m - 1 ≤ 8 by omega) hb
    have l2 := heavy_lt8 (show n - 1 ≤ 8 by omega) hm hb
    have c0 := ww_nonneg (n - 1) (m - 1) k
    have b0 := ww_nonneg (n - 1) m (k - 1)
    generalize ww (n - 1) m k = A at *
    generalize ww (n - 1) m (k - 1) = B at *
    generalize ww (n - 1) (m - 1) k = C at *
    generalize heavy (n - 1) (m - 1) b = L at *
    generalize heavy (n - 1) m b = M at *
    have q1 : C * M ≤ 256 * M := Int.mul_le_mul_of_nonneg_right h1 (by omega)
    have q2 : 0 ≤ A * (L : Int) := Int.mul_nonneg h2 (by omega)
    have q3 : B * L ≤ 256 * L := Int.mul_le_mul_of_nonneg_right h3 (by omega)
    have q4 : ((b : Int) + 1) * L ≤ 100 * L := Int.mul_le_mul_of_nonneg_right (by omega) (by omega)
    have q5 : ((b : Int) + 1) * L * M ≤ 100 * L * M := Int.mul_le_mul_of_nonneg_right q4 (by omega)
    have q6 : (L * M : Nat) < 2 ^ 72 * 2 ^ 72 := Nat.mul_lt_mul'' l1 l2
    have q7 : (100 : Int) * L * M = 100 * ((L * M : Nat) : Int) := by rw [Int.natCast_mul, Int.mul_assoc]
    omega
  · show (daring n m k b).natAbs < 2 ^ 200
    unfold daring
    have h1 := ww_le (m - 1) k (show n - 1 ≤ 8 by omega)
    have h3 := ww_le m k (show n - 1 ≤ 8 by omega)
    have h2 := ww_nonneg (n - 1) m k
    have c0 := ww_nonneg (n - 1) (m - 1) k
    have l1 := heavy_lt8 (show n - 1 ≤ 8 by omega) (show m - 1 ≤ 8 by omega) hb
    have l2 := heavy_lt8 (show n - 1 ≤ 8 by omega) hm hb
    have m1 := mul_pow (i := ww (n - 1) (m - 1) k) (a := 9) (by omega) (nat_pow l2)
    have m2 := mul_pow (i := ww (n - 1) m k) (a := 9) (by omega) (nat_pow l1)
    exact pow_mono (sub_pow m1 m2) (by decide)
theorem fr_dare {n m k b : Nat} (hn : n ≤ 8) (hm : m ≤ 8) (hb : 0 < b) (hb2 : b ≤ 99) : Fr 200 (dare n m k b) := by
  by_cases c : n = 0 ∨ k = 0
  · unfold dare; rw [if_pos c]; exact (fr_small (by decide)).1
  · by_cases c1 : m = 0
    · unfold dare; rw [if_neg c, if_pos c1]; exact (fr_small (by decide)).2
    · rw [dare_eq (by omega) (by omega) (by omega) hb]
      exact fr_red (dare_lt2 k hn hm hb2 hb)
theorem ofR_pos (r : Rat) : 0 < (ofR r).2 := Nat.pos_iff_ne_zero.mpr r.den_nz
theorem fr_caught {n m k b : Nat} (hn : n ≤ 8) (hm : m ≤ 8) (hk : k ≤ 8) (hb : 0 < b) (hb2 : b ≤ 9) : Fr 63 (caughtUp b n m k) := by
  obtain ⟨h1, h2⟩ := caught_small (m := m) (k := k) hb hb2 hn hm hk
  refine ⟨?_, h2, h1⟩
  rw [caught_R hb]
  exact ofR_pos _
/-! ### what the program's mixes are -/
theorem caught_mix {b n m k : Nat} (h : 0 < b) (hm : m ≠ 0) (hk : k ≠ 0) :
    caughtUp b (n + 1) m k = mixQ (dare (n + 1) m k b) (mixQ (look (n + 1) m b) (1, 1) (caughtUp b n m (k - 1))) (mixQ (look (n + 1) m b) (caughtUp b n (m - 1) k) (caughtUp b n m k)) := by
  rw [caught_R h, caught_R h, caught_R h, caught_R h, look_R _ _ h, dare_R _ _ _ h, one_R, mixQ_R (ofR_pos _) (ofR_pos _) (ofR_pos _), mixQ_R (ofR_pos _) (ofR_pos _) (ofR_pos _), mixQ_R (ofR_pos _) (ofR_pos _) (ofR_pos _)]
  simp only [qv_ofR]
  rw [caught_step b n m k hm hk]
theorem caught_none {b n m k : Nat} (h : 0 < b) (c : n = 0 ∨ m = 0 ∨ k = 0) : caughtUp b n m k = (0, 1) := by
  rw [caught_R h, zero_R]
  rcases c with rfl | rfl | rfl
  · rfl
  · rw [caught_looks]
  · rw [caught_misdeeds]
theorem qv_red (a : Int) {b : Nat} (h : 0 < b) : red a b = ofR (qv (a, b)) := red_eq (Nat.pos_iff_ne_zero.mp h)
/-- done, as the program reckons -/
def doneQ (g c : Q) (b : Nat) : Q := red (g.1 * (c.2 : Int) + (b : Int) * c.1 * (g.2 : Int)) (g.2 * c.2)
theorem done_eq {b : Nat} (h : 0 < b) (n m k : Nat) : doneUp b n m k = doneQ (worth n m k b) (caughtUp b n m k) b := by
  have e := worth_done h n m k
  rw [done_R h]
  unfold doneQ
  rw [worth_R _ _ _ h, caught_R h, red_eq (Nat.pos_iff_ne_zero.mp (Nat.mul_pos (ofR_pos _) (ofR_pos _))), mk_div]
  congr 1
  have e2 : doneR b n m k = worthR n m k b + (b : Rat) * caughtR b n m k := by grind
  rw [e2]
  generalize worthR n m k b = r
  generalize caughtR b n m k = s
  show r + (b : Rat) * s = ((r.num * (s.den : Int) + (b : Int) * s.num * (r.den : Int) : Int) : Rat) / ((r.den * s.den : Nat) : Rat)
  have er := self_div r
  have es := self_div s
  have d1 := nat_ne r.den_nz
  have d2 := nat_ne s.den_nz
  simp only [Rat.intCast_add, Rat.intCast_mul, Rat.intCast_natCast, Rat.natCast_mul]
  conv => lhs; rw [er, es]
  generalize (r.num : Rat) = a1 at *
  generalize (s.num : Rat) = a2 at *
  generalize (r.den : Rat) = a3 at *
  generalize (s.den : Rat) = a4 at *
  grind
theorem left_eq {b : Nat} (h : 0 < b) {n m j : Nat} (hj : j ≤ m) : leftUp b n m j = red ((choose n (m - j) * b ^ j : Nat) : Int) (heavy n m b) := by
  rw [left_R h, red_eq (Nat.pos_iff_ne_zero.mp (heavy_pos n m h)), mk_div]
  unfold leftR
  rw [if_neg (by omega), Rat.intCast_natCast]
theorem seen_R (b : Nat) : qv (-(b : Int), 1) = -(b : Rat) := by
  rw [qv_div]
  show ((-(b : Int) : Int) : Rat) / ((1 : Nat) : Rat) = _
  rw [Rat.intCast_neg, Rat.intCast_natCast]
  have : ((1 : Nat) : Rat) = 1 := rfl
  rw [this]; grind
theorem whole_neg (b : Nat) : whole (-(b : Int)) = ofR (-(b : Rat)) := by
  rw [whole_R]; congr 1
theorem c_pos (x : Nat) : 0 < (((x : Int), 100) : Q).2 := by show 0 < 100; decide
theorem s_pos (b : Nat) : 0 < ((-(b : Int), 1) : Q).2 := by show 0 < 1; decide
theorem o_pos (r : Rat) : 0 < (oneQ (ofR r)).2 := ofR_pos r
theorem c_red (x : Nat) : red (x : Int) 100 = ofR (qv ((x : Int), 100)) := qv_red _ (by decide)
theorem mix_seen (x : Nat) (b : Nat) (r : Rat) : mix (red x 100) (whole (-(b : Int))) (ofR r) = mixQ (x, 100) (-(b : Int), 1) (ofR r) := by
  rw [c_red, whole_neg, mix_R, mixQ_R (c_pos x) (s_pos b) (ofR_pos r), seen_R, qv_ofR]
theorem mix_seen1 (x : Nat) (b : Nat) (r : Rat) : mix (red x 100) (whole (-(b : Int))) (add (whole 1) (ofR r)) = mixQ (x, 100) (-(b : Int), 1) (oneQ (ofR r)) := by
  rw [c_red, whole_neg, whole_R, add_R, mix_R, mixQ_R (c_pos x) (s_pos b) (o_pos r), seen_R, oneQ_R (ofR_pos r), qv_ofR]
  rfl
theorem mix_both (x : Nat) (r s : Rat) : mix (red x 100) (ofR r) (ofR s) = mixQ (x, 100) (ofR r) (ofR s) := by
  rw [c_red, mix_R, mixQ_R (c_pos x) (ofR_pos r) (ofR_pos s), qv_ofR, qv_ofR]
theorem mix_one (x : Nat) (r s : Rat) : mix (red x 100) (add (whole 1) (ofR r)) (ofR s) = mixQ (x, 100) (oneQ (ofR r)) (ofR s) := by
  rw [c_red, whole_R, add_R, mix_R, mixQ_R (c_pos x) (o_pos r) (ofR_pos s), oneQ_R (ofR_pos r), qv_ofR, qv_ofR]
  rfl
theorem iflook_eq {n m k b x : Nat} (h : 0 < b) (hk : k ≠ 0) :
    ifLook n m k b (red x 100) = greater (mixQ (x, 100) (-(b : Int), 1) (oneQ (worth (n - 1) m (k - 1) b))) (mixQ (x, 100) (worth (n - 1) (m - 1) k b) (worth (n - 1) m k b)) := by
  unfold ifLook
  dsimp only
  rw [if_neg hk, if_neg hk]
  unfold seen unseen idle quiet
  rw [worth_R (n - 1) m (k - 1) h, worth_R (n - 1) (m - 1) k h, worth_R (n - 1) m k h, mix_seen1, mix_both]
theorem iflook_free {n k b : Nat} (h : 0 < b) (hn : n ≠ 0) (hk : k ≠ 0) : ifLook n 0 k b (red (0 : Nat) 100) = worth n 0 k b := by
  obtain ⟨n, rfl⟩ : ∃ n', n = n' + 1 := ⟨n - 1, by omega⟩
  obtain ⟨k, rfl⟩ : ∃ k', k = k' + 1 := ⟨k - 1, by omega⟩
  unfold ifLook
  dsimp only
  rw [if_neg (by omega), if_neg (by omega)]
  show greater (mix (red ((0 : Nat) : Int) 100) (whole (-(b : Int))) (add (whole 1) (worth n 0 k b))) (mix (red ((0 : Nat) : Int) 100) (worth n 0 (k + 1) b) (worth n 0 (k + 1) b)) = _
  have e0 : red ((0 : Nat) : Int) 100 = ofR 0 := rfl
  rw [worth_R n 0 k h, worth_R n 0 (k + 1) h, worth_R (n + 1) 0 (k + 1) h, e0, whole_neg, whole_R, add_R, mix_R, mix_R, greater_R, game_free]
  congr 1
  have hs := ww_step n 0 (k + 1) b
  have e1 : worthR n 0 (k + 1) b = (ww n 0 (k + 1) : Rat) := by unfold worthR; rw [heavy_zero]; show _ / (1 : Rat) = _; grind
  have e2 : worthR n 0 k b = (ww n 0 k : Rat) := by unfold worthR; rw [heavy_zero]; show _ / (1 : Rat) = _; grind
  rw [heavy_zero] at hs
  have hs' : (ww n 0 (k + 1) : Rat) ≤ (ww n 0 k : Rat) + 1 := by
    have : (ww n 0 (k + 1) : Int) ≤ ww n 0 k + 1 := by simpa using hs
    have := Rat.intCast_le_intCast.mpr this
    rw [Rat.intCast_add] at this
    exact this
  have o : ((1 : Int) : Rat) = 1 := rfl
  rw [o, e1, e2, if_neg (by grind)]
  grind
theorem ifdare_eq {n m k b y : Nat} (h : 0 < b) :
    ifDare n m k b (red y 100) = if m = 0 then mixQ (y, 100) (oneQ (worth (n - 1) m (k - 1) b)) (worth (n - 1) m k b)
      else if less (mixQ (y, 100) (-(b : Int), 1) (worth (n - 1) (m - 1) k b)) (mixQ (y, 100) (oneQ (worth (n - 1) m (k - 1) b)) (worth (n - 1) m k b)) then mixQ (y, 100) (-(b : Int), 1) (worth (n - 1) (m - 1) k b) else mixQ (y, 100) (oneQ (worth (n - 1) m (k - 1) b)) (worth (n - 1) m k b) := by
  have e1 : mix (red y 100) (seen b) (idle n m k b) = mixQ (y, 100) (-(b : Int), 1) (worth (n - 1) (m - 1) k b) := by
    unfold seen idle
    rw [worth_R _ _ _ h, mix_seen]
  have e2 : mix (red y 100) (unseen n m k b) (quiet n m k b) = mixQ (y, 100) (oneQ (worth (n - 1) m (k - 1) b)) (worth (n - 1) m k b) := by
    unfold unseen quiet
    rw [worth_R (n - 1) m (k - 1) h, worth_R (n - 1) m k h, mix_one]
  unfold ifDare
  dsimp only
  rw [e1, e2]
end Wl

set_option Elab.async false
set_option maxHeartbeats 2000000
/-! The request read call by call: plain Lean. -/
namespace Wl
open Kp317
def nums : List Nat := [4, 2, 0, 0, 0, 0, 0, 3, 1, 1, 1, 0, 0, 1, 1, 1, 1]
theorem shape_inv {p : Int} {n k : Nat} (h : PyKp317.shape p = some (n, k)) : k = 0 ∧ ∃ c : Nat, p = c ∧ c < 17 ∧ nums[c]? = some n := by
  unfold PyKp317.shape at h
  by_cases h0 : p = 0
  · rw [if_pos h0] at h; cases h; exact ⟨rfl, 0, h0, by decide, rfl⟩
  rw [if_neg h0] at h
  by_cases h1 : p = 1
  · rw [if_pos h1] at h; cases h; exact ⟨rfl, 1, h1, by decide, rfl⟩
  rw [if_neg h1] at h
  by_cases h2 : p = 2
  · rw [if_pos h2] at h; cases h; exact ⟨rfl, 2, h2, by decide, rfl⟩
  rw [if_neg h2] at h
  by_cases h3 : p = 3
  · rw [if_pos h3] at h; cases h; exact ⟨rfl, 3, h3, by decide, rfl⟩
  rw [if_neg h3] at h
  by_cases h4 : p = 4
  · rw [if_pos h4] at h; cases h; exact ⟨rfl, 4, h4, by decide, rfl⟩
  rw [if_neg h4] at h
  by_cases h5 : p = 5
  · rw [if_pos h5] at h; cases h; exact ⟨rfl, 5, h5, by decide, rfl⟩
  rw [if_neg h5] at h
  by_cases h6 : p = 6
  · rw [if_pos h6] at h; cases h; exact ⟨rfl, 6, h6, by decide, rfl⟩
  rw [if_neg h6] at h
  by_cases h7 : p = 7
  · rw [if_pos h7] at h; cases h; exact ⟨rfl, 7, h7, by decide, rfl⟩
  rw [if_neg h7] at h
  by_cases h8 : p = 8
  · rw [if_pos h8] at h; cases h; exact ⟨rfl, 8, h8, by decide, rfl⟩
  rw [if_neg h8] at h
  by_cases h9 : p = 9
  · rw [if_pos h9] at h; cases h; exact ⟨rfl, 9, h9, by decide, rfl⟩
  rw [if_neg h9] at h
  by_cases h10 : p = 10
  · rw [if_pos h10] at h; cases h; exact ⟨rfl, 10, h10, by decide, rfl⟩
  rw [if_neg h10] at h
  by_cases h11 : p = 11
  · rw [if_pos h11] at h; cases h; exact ⟨rfl, 11, h11, by decide, rfl⟩
  rw [if_neg h11] at h
  by_cases h12 : p = 12
  · rw [if_pos h12] at h; cases h; exact ⟨rfl, 12, h12, by decide, rfl⟩
  rw [if_neg h12] at h
  by_cases h13 : p = 13
  · rw [if_pos h13] at h; cases h; exact ⟨rfl, 13, h13, by decide, rfl⟩
  rw [if_neg h13] at h
  by_cases h14 : p = 14
  · rw [if_pos h14] at h; cases h; exact ⟨rfl, 14, h14, by decide, rfl⟩
  rw [if_neg h14] at h
  by_cases h15 : p = 15
  · rw [if_pos h15] at h; cases h; exact ⟨rfl, 15, h15, by decide, rfl⟩
  rw [if_neg h15] at h
  by_cases h16 : p = 16
  · rw [if_pos h16] at h; cases h; exact ⟨rfl, 16, h16, by decide, rfl⟩
  rw [if_neg h16] at h
  cases h
theorem calls_cons {f : Nat} {p : Int} {r : List Int} {cs : List (List (List Int))} (h : PyFlat.calls PyKp317.shape f (p :: r) = some cs) :
    ∃ (g n : Nat) (cs' : List (List (List Int))) (c : Nat), f = g + 1 ∧ p = c ∧ c < 17 ∧ nums[c]? = some n ∧ n ≤ r.length ∧ cs = [p :: r.take n] :: cs' ∧ PyFlat.calls PyKp317.shape g (r.drop n) = some cs' := by
  cases f with
  | zero => simp [PyFlat.calls] at h
  | succ g =>
    simp only [PyFlat.calls] at h
    cases e : PyFlat.call PyKp317.shape (p :: r) with
    | none => rw [e] at h; cases h
    | some ct =>
      obtain ⟨c, t⟩ := ct
      rw [e] at h
      dsimp only at h
      cases e2 : PyFlat.calls PyKp317.shape g t with
      | none => rw [e2] at h; cases h
      | some cs' =>
        rw [e2] at h
        dsimp only at h
        injection h with h
        simp only [PyFlat.call] at e
        cases e3 : PyKp317.shape p with
        | none => rw [e3] at e; cases e
        | some nk =>
          obtain ⟨n, k⟩ := nk
          rw [e3] at e
          dsimp only at e
          obtain ⟨rfl, c0, hp, hc, hn⟩ := shape_inv e3
          by_cases hl : r.length < n
          · rw [if_pos hl] at e; cases e
          · rw [if_neg hl] at e
            simp only [PyFlat.rows] at e
            injection e with e
            injection e with e4 e5
            subst e4 e5
            exact ⟨g, n, cs', c0, rfl, hp, hc, hn, by omega, h.symm, e2⟩
theorem whole_id (c : List (List Int)) : PyKp317.whole c = c := by
  unfold PyKp317.whole
  split <;> rfl
theorem calls_eq (l : List Int) : PyKp317.calls l = PyFlat.calls PyKp317.shape l.length l := by
  unfold PyKp317.calls
  cases e : PyFlat.calls PyKp317.shape l.length l with
  | none => rfl
  | some cs =>
    have : PyKp317.whole = id := funext whole_id
    simp [this]
theorem answers_eq {l : List Int} {cs : List (List (List Int))} (h : PyFlat.calls PyKp317.shape l.length l = some cs) :
    PyKp317.answers l = PyFlat.told (PyFlat.played Kp317Neutral.step Kp317Neutral.start cs) := by
  unfold PyKp317.answers
  rw [calls_eq, h]
theorem asked_calls {l : List Int} (h : PyKp317.answers_asked l = true) : ∃ cs, PyFlat.calls PyKp317.shape l.length l = some cs := by
  unfold PyKp317.answers_asked at h
  cases e : PyFlat.calls PyKp317.shape l.length l with
  | none => rw [e] at h; cases h
  | some cs => exact ⟨cs, rfl⟩
/-- what is answered -/
def ansOf (x : Kp317.Ans) : List Int := x.num :: x.nums
theorem told_cons {st : Kp317.State} {c : List (List Int)} {x : Kp317.Call} (cs : List (List (List Int))) (h : Kp317Neutral.callOf c = some x) :
    PyFlat.told (PyFlat.played Kp317Neutral.step st (c :: cs)) = ((ansOf (Kp317.step st x).2).length : Int) :: (ansOf (Kp317.step st x).2 ++ PyFlat.told (PyFlat.played Kp317Neutral.step (Kp317.step st x).1 cs)) := by
  have e : Kp317Neutral.step st c = ((Kp317.step st x).1, ansOf (Kp317.step st x).2) := by
    unfold Kp317Neutral.step
    rw [h]; rfl
  show PyFlat.told ((Kp317Neutral.step st c).2 :: PyFlat.played Kp317Neutral.step (Kp317Neutral.step st c).1 cs) = _
  rw [e]
  simp [PyFlat.told]
/-! ### a call by its number -/
theorem callOf_some {c n : Nat} (hc : c < 17) (hn : nums[c]? = some n) {xs : List Int} (hx : xs.length = n) : ∃ x, Kp317Neutral.callOf [(c : Int) :: xs] = some x := by
  have key : ∀ c : Nat, c < 17 → ∀ n : Nat, nums[c]? = some n → ∀ xs : List Int, xs.length = n → ∃ x, Kp317Neutral.callOf [(c : Int) :: xs] = some x := by
    intro c hc
    match c, hc with
    | 0, _ => intro n hn xs hx; cases hn; match xs, hx with | [a, b, c, d], _ => exact ⟨_, rfl⟩
    | 1, _ => intro n hn xs hx; cases hn; match xs, hx with | [a, b], _ => exact ⟨_, rfl⟩
    | 2, _ => intro n hn xs hx; cases hn; match xs, hx with | [], _ => exact ⟨_, rfl⟩
    | 3, _ => intro n hn xs hx; cases hn; match xs, hx with | [], _ => exact ⟨_, rfl⟩
    | 4, _ => intro n hn xs hx; cases hn; match xs, hx with | [], _ => exact ⟨_, rfl⟩
    | 5, _ => intro n hn xs hx; cases hn; match xs, hx with | [], _ => exact ⟨_, rfl⟩
    | 6, _ => intro n hn xs hx; cases hn; match xs, hx with | [], _ => exact ⟨_, rfl⟩
    | 7, _ => intro n hn xs hx; cases hn; match xs, hx with | [a, b, c], _ => exact ⟨_, rfl⟩
    | 8, _ => intro n hn xs hx; cases hn; match xs, hx with | [a], _ => exact ⟨_, rfl⟩
    | 9, _ => intro n hn xs hx; cases hn; match xs, hx with | [a], _ => exact ⟨_, rfl⟩
    | 10, _ => intro n hn xs hx; cases hn; match xs, hx with | [a], _ => exact ⟨_, rfl⟩
    | 11, _ => intro n hn xs hx; cases hn; match xs, hx with | [], _ => exact ⟨_, rfl⟩
    | 12, _ => intro n hn xs hx; cases hn; match xs, hx with | [], _ => exact ⟨_, rfl⟩
    | 13, _ => intro n hn xs hx; cases hn; match xs, hx with | [a], _ => exact ⟨_, rfl⟩
    | 14, _ => intro n hn xs hx; cases hn; match xs, hx with | [a], _ => exact ⟨_, rfl⟩
    | 15, _ => intro n hn xs hx; cases hn; match xs, hx with | [a], _ => exact ⟨_, rfl⟩
    | 16, _ => intro n hn xs hx; cases hn; match xs, hx with | [a], _ => exact ⟨_, rfl⟩
    | c + 17, h => omega
  exact key c hc n hn xs hx
/-- numbers that are whole and not below 0 -/
theorem nat_of {z : Int} (h : 0 ≤ z) : ∃ n : Nat, z = n ∧ z.toNat = n := ⟨z.toNat, by omega, rfl⟩
/-! ### what a season keeps -/
def Good : Kp317.State → Prop
  | none => True
  | some s => s.days ≤ 8 ∧ s.looks ≤ 8 ∧ s.misdeeds ≤ 8 ∧ 1 ≤ s.fine ∧ s.fine ≤ 9
theorem okN_le {n m k : Nat} (h : Kp317.okN n m k = true) : 1 ≤ n ∧ n ≤ 8 ∧ m ≤ 8 ∧ k ≤ 8 := by
  unfold Kp317.okN at h
  simp only [Bool.and_eq_true, decide_eq_true_eq] at h
  omega
theorem okB_le {b : Nat} (h : Kp317.okB b = true) : 1 ≤ b ∧ b ≤ 9 := by
  unfold Kp317.okB at h
  simp only [Bool.and_eq_true, decide_eq_true_eq] at h
  omega
def nowDays (s : Kp317.Season) : Nat := if s.over then 0 else s.days
theorem now_le (s : Kp317.Season) : nowDays s ≤ s.days := by unfold nowDays; split <;> omega
def dayOf (s : Kp317.Season) (l d : Nat) : Kp317.Season :=
  { s with days := nowDays s - 1, looks := s.looks - l, misdeeds := s.misdeeds - d, gain := s.gain + (if d = 0 then 0 else if l = 1 then -(s.fine : Int) else 1), over := decide (l = 1 ∧ d = 1) }
theorem step_day (z : Kp317.Season) (l d : Nat) : Kp317.step (some z) (.day l d) = if nowDays z = 0 then (some z, Kp317.say (-6)) else if 1 < l ∨ 1 < d then (some z, Kp317.say (-22)) else if (l = 1 ∧ z.looks = 0) ∨ (d = 1 ∧ z.misdeeds = 0) then (some z, Kp317.say (-33)) else (some (dayOf z l d), ⟨0, [(dayOf z l d).gain]⟩) := rfl
theorem step_begin (st : Kp317.State) (n m k b : Nat) : Kp317.step st (.begin_ n m k b) = if Kp317.okN n m k = false ∨ Kp317.okB b = false then (st, Kp317.say (-22)) else (some ⟨n, m, k, b, 0, false⟩, Kp317.say 0) := rfl
theorem good_step {st : Kp317.State} (h : Good st) (x : Kp317.Call) : Good (Kp317.step st x).1 := by
  cases x with
  | begin_ n m k b =>
    rw [step_begin]
    by_cases o : Kp317.okN n m k = false ∨ Kp317.okB b = false
    · rw [if_pos o]; exact h
    · rw [if_neg o]
      have o1 : Kp317.okN n m k = true := by cases e : Kp317.okN n m k with | true => rfl | false => exact absurd (.inl e) o
      have o2 : Kp317.okB b = true := by cases e : Kp317.okB b with | true => rfl | false => exact absurd (.inr e) o
      have := okN_le o1
      have := okB_le o2
      show n ≤ 8 ∧ m ≤ 8 ∧ k ≤ 8 ∧ 1 ≤ b ∧ b ≤ 9
      omega
  | day l d =>
    cases st with
    | none => exact trivial
    | some s =>
      rw [step_day]
      have n1 := now_le s
      obtain ⟨h1, h2, h3, h4, h5⟩ := id h
      split
      · exact h
      split
      · exact h
      split
      · exact h
      show nowDays s - 1 ≤ 8 ∧ s.looks - l ≤ 8 ∧ s.misdeeds - d ≤ 8 ∧ 1 ≤ s.fine ∧ s.fine ≤ 9
      omega
  | _ => cases st with
    | none => exact trivial
    | some s => exact h
theorem ans_len (st : Kp317.State) (x : Kp317.Call) : (ansOf (Kp317.step st x).2).length ≤ 4 := by
  have t : ∀ q, (ansOf (Kp317.tell q)).length ≤ 4 := fun q => by simp [ansOf, Kp317.tell]
  have y : ∀ q, (ansOf (Kp317.say q)).length ≤ 4 := fun q => by simp [ansOf, Kp317.say]
  have ite : ∀ (c : Prop) [Decidable c] (a b : Kp317.Ans), (ansOf a).length ≤ 4 → (ansOf b).length ≤ 4 → (ansOf (if c then a else b)).length ≤ 4 := by
    intro c _ a b ha hb
    split <;> assumption
  cases x with
  | begin_ n m k b => rw [step_begin]; split <;> exact y _
  | _ => cases st with
    | none => exact y _
    | some s =>
      first
      | exact t _
      | exact (by simp [ansOf, Kp317.step] : (ansOf (Kp317.step (some s) .gain).2).length ≤ 4)
      | exact (by simp [ansOf, Kp317.step] : (ansOf (Kp317.step (some s) .left).2).length ≤ 4)
      | (rw [step_day]; repeat' split
         all_goals first | exact y _ | simp [ansOf])
      | exact ite _ _ _ (y _) (t _)
      | exact ite _ _ _ (y _) (ite _ _ _ (y _) (ite _ _ _ (y _) (t _)))
      | exact ite _ _ _ (y _) (ite _ _ _ (y _) (ite _ _ _ (y _) (ite _ _ _ (t _) (t _))))
      | exact ite _ _ _ (y _) (y _)
      | (refine ite _ _ _ (y _) ?_; split <;> exact y _)
end Wl

set_option Elab.async false
namespace Wl
open PySem PySem.Spec PyProof.Rows L2
def top (i : Nat) : Stmt := PySem.Challenge.pw_whentolook_s01_answers.main.body.getD i (.Pass ⟨0, 0, 0, 0⟩)
abbrev sGcd : Stmt := top 3
abbrev sLow : Stmt := top 4
abbrev sLess : Stmt := top 5
abbrev sOne : Stmt := top 6
abbrev sMix : Stmt := top 7
abbrev sWays : Stmt := top 8
abbrev sWeight : Stmt := top 9
abbrev sWW : Stmt := top 10
abbrev sWorth : Stmt := top 11
abbrev sLook : Stmt := top 12
abbrev sDare : Stmt := top 13
abbrev sIfL : Stmt := top 14
abbrev sIfD : Stmt := top 15
abbrev sCF : Stmt := top 16
abbrev sCC : Stmt := top 17
abbrev sDone : Stmt := top 18
abbrev sSpare : Stmt := top 19
abbrev sLF : Stmt := top 20
abbrev sFF : Stmt := top 21
abbrev sInit : Stmt := inClass (top 35) 0
abbrev sSA : Stmt := top 36
abbrev sFA : Stmt := top 37
abbrev sPA : Stmt := top 38
abbrev sTF : Stmt := top 39
abbrev sABegin : Stmt := top 40
abbrev sPlay : Stmt := top 41
abbrev sADay : Stmt := top 42
abbrev sGain : Stmt := top 43
abbrev sLeft : Stmt := top 44
abbrev sAWorth : Stmt := top 45
abbrev sALook : Stmt := top 46
abbrev sADare : Stmt := top 47
abbrev sAWorthof : Stmt := top 48
abbrev sAIffine : Stmt := top 49
abbrev sCR : Stmt := top 50
abbrev sAIflook : Stmt := top 51
abbrev sAIfdare : Stmt := top 52
abbrev sACaught : Stmt := top 53
abbrev sADone : Stmt := top 54
abbrev sALooked : Stmt := top 55
abbrev sASpare : Stmt := top 56
abbrev sALooksfor : Stmt := top 57
abbrev sAFinefor : Stmt := top 58
abbrev sCall : Stmt := top 60
abbrev sAns : Stmt := top 61
end Wl

set_option Elab.async false
set_option maxRecDepth 100000
set_option maxHeartbeats 2000000
namespace Wl
open PySem PySem.Spec PyProof.Rows L2
/-- a def of the top that keeps a promise, called by its name -/
def Wcal (P : Program) (w : World) (K : PySem.W.Frag) (mg : Str → Option Value) (base : Heap) (x : Str) (k : Nat) (sp : Sp) : Prop :=
  ∃ (f : Addr) (fd : FuncData) (ps : List Str), FnOk P w K mg base CX0 k f fd ps sp ∧ mg x = some (.ref f) ∧ PySem.W.keepIn K (.ref f) = true ∧ Binds K fd ps []
/-- a def of the top as it stands -/
structure Wdef (K : PySem.W.Frag) (mg : Str → Option Value) (x : Str) (st : Stmt) (ps : List Str) : Prop where
  ex : ∃ (f : Addr) (fd : FuncData), Fun K x x st f fd ∧ mg x = some (.ref f) ∧ PySem.W.keepIn K (.ref f) = true ∧ Binds K fd ps []
theorem Wdef.cal {P : Program} {w : World} {K : PySem.W.Frag} {mg : Str → Option Value} {base : Heap} {x : Str} {st : Stmt} {ps : List Str} {k : Nat} {sp : Sp} (D : Wdef K mg x st ps)
    (h : ∀ f fd, Fun K x x st f fd → FnOk P w K mg base CX0 k f fd ps sp) : Wcal P w K mg base x k sp := by
  obtain ⟨f, fd, F, m, kp, b⟩ := D.ex
  exact ⟨f, fd, ps, h f fd F, m, kp, b⟩
theorem pe_cal {X : Cx} {x : Str} {j k : Nat} {sp : Sp} {p pos : Pos} {e : Expr} {es : List Expr} {t : TA} (c : Wcal X.prog X.w X.K X.mg X.base x k sp) (hr : Room j X.A) (hk : k ≤ j) (hg : Gl X x) (ha : PA X (e :: es) t)
    (hdb : (x == ("__debug__" : Str)) = false := by decide) (he : starEach (e :: es) X.env = (false, eval e X.env) :: starEach es X.env := by rfl) (hpl : (backTo pos (starEach es X.env)).any (·.1) = false := by rfl) :
    PE X (.Call (.Name x p) (e :: es) [] pos) (tCall sp [] E0 t) := by
  obtain ⟨f, fd, ps, F, m, kp, b⟩ := c
  exact pe_call F (hr.mono hk) hg m kp b .nil pass0 ha hdb he hpl
section
variable {P : Program} {w : World} {K : PySem.W.Frag} {mg : Str → Option Value} {base : Heap}
/-! ### greatest_divisor -/
def spGcd : Sp := fun vs H Q _ => ∃ a b : Nat, vs = [.int a, .int b] ∧ Q (.int (Nat.gcd a b : Nat)) H
theorem scGcd : FnScope ["first", "second", "rest"] ["first", "second"] (defScope sGcd) := ⟨rfl, rfl, rfl, by decide +kernel, rfl, by decide +kernel, by decide +kernel⟩
def slotN (σ : L2.St) (i : Nat) : Nat := match σ[i]? with
  | some (some (.int z)) => z.toNat
  | _ => 0
theorem ok_gcd (D : Wdef K mg "greatest_divisor" sGcd ["first", "second"]) : Wcal P w K mg base "greatest_divisor" 1 spGcd := by
  refine D.cal fun f fd F => ?_
  refine F.ok scGcd (fun vs H Q E h => ?_) (fun cdv A outer s H vs Q E hr h => ?_)
  · obtain ⟨a, b, rfl, _⟩ := h
    rfl
  · obtain ⟨a, b, rfl, k⟩ := h
    refine ⟨_, pss_cons (ps_while PassesOwn.never (pt_cmpR op_gt (pv 1) pe_int (nomark _))
      (pss_cons (ps_set (i := 2) scGcd.nd rfl (Or.inl rfl) (pe_op op_mod (pv 0) (pv 1)))
      (pss_cons (ps_set (i := 0) scGcd.nd rfl (Or.inl rfl) (pv 1))
      (pss_one (ps_set (i := 1) scGcd.nd rfl (Or.inl rfl) (pv 2))))))
      (pss_one (ps_ret (pv 0))), ?_⟩
    refine while_by (fun σ H' => H' = H ∧ ∃ (x y : Nat) (v : Option V), σ = [some (.int x), some (.int y), v] ∧ Nat.gcd x y = Nat.gcd a b) (fun σ _ => slotN σ 1)
      ⟨rfl, a, b, none, rfl, rfl⟩ ?_ ?_
    · rintro σ H' ⟨rfl, x, y, v, rfl, e⟩
      refine ⟨_, rfl, _, _, rfl, rfl, _, rfl, ?_⟩
      refine ite2 (fun c => ?_) (fun c => ?_)
      · have c : (0 : Int) < y := by simpa using c
        refine ⟨_, rfl, _, rfl, _, _, rfl, rfl, c, _, rfl, _, rfl, ⟨rfl, y, x % y, _, rfl, ?_⟩, ?_⟩
        · rw [← e, Nat.gcd_comm x y, Nat.gcd_rec y x, Nat.gcd_comm]
        · show ((x : Int) % y).toNat < (y : Int).toNat
          have := Int.emod_lt_of_pos (x : Int) c
          have := Int.emod_nonneg (x : Int) (show (y : Int) ≠ 0 by omega)
          omega
      · have c : y = 0 := by
          have : ¬ (0 : Int) < y := by simpa using c
          omega
        subst c
        rw [Nat.gcd_zero_right] at e
        subst e
        exact ⟨_, rfl, k⟩
    · intro σ H Q Q' hq h
      obtain ⟨v, e, i, j, ei, ej, z, ez, q⟩ := h
      exact ⟨v, e, i, j, ei, ej, z, ez, hq _ _ q⟩
/-! ### lowest -/
/-- a fraction as a tuple in memory, tracked or written -/
def vQ (x : Kp317.Q) : List V := [.int x.1, .int (x.2 : Nat)]
theorem same_new {H : Hp} {p : Addr} (o : HO) (hp : H p = none) : Same H (upd H p o) := fun b o' e => by rw [upd_ne (ne_of_none e hp)]; exact e
theorem same_tup {H H' : Hp} {a : Addr} {xs : List V} (e : Same H H') (h : SqT K H a xs) : SqT K H' a xs := by
  rcases h with (h | ⟨o, h⟩) | h
  · exact .inl (.inl (e _ _ h))
  · exact .inl (.inr ⟨o, e _ _ h⟩)
  · exact .inr h
/-- a fraction is given, all that was stands -/
def givesQ (K : PySem.W.Frag) (H : Hp) (Q : VK) (x : Kp317.Q) : Prop := ∀ (p : Addr) (H' : Hp), Same H H' → SqT K H' p (vQ x) → Q (.ref p) H'
/-- a written tuple by its name -/
def Wtup (K : PySem.W.Frag) (mg : Str → Option Value) (x : Str) (xs : List V) : Prop := ∃ t : Addr, mg x = some (.ref t) ∧ ∀ H : Hp, SqT K H t xs
theorem givesQ.new {H : Hp} {Q : VK} {x : Kp317.Q} (k : givesQ K H Q x) {p : Addr} (hp : H p = none) : Q (.ref p) (upd H p (.tup (vQ x))) := k p _ (same_new _ hp) (SqT.of upd_same)
def spLow (K : PySem.W.Frag) : Sp := fun vs H Q _ => ∃ (a : Int) (b : Nat), vs = [.int a, .int b] ∧ 0 < b ∧ b < 2 ^ 3000 ∧ givesQ K H Q (Kp317.red a b)
theorem scLow : FnScope ["above", "below", "shared"] ["above", "below"] (defScope sLow) := ⟨rfl, rfl, rfl, by decide +kernel, rfl, by decide +kernel, by decide +kernel⟩
theorem ok_low (D : Wdef K mg "lowest" sLow ["above", "below"]) (cG : Wcal P w K mg base "greatest_divisor" 1 spGcd) (mabs : mg "abs" = none) : Wcal P w K mg base "lowest" 2 (spLow K) := by
  refine D.cal fun f fd F => ?_
  refine F.ok scLow (fun vs H Q E h => ?_) (fun cdv A outer s H vs Q E hr h => ?_)
  · obtain ⟨a, b, rfl, _⟩ := h
    rfl
  · obtain ⟨a, b, rfl, hb, hb2, k⟩ := h
    refine ⟨_, pss_cons (ps_set (i := 2) scLow.nd rfl (Or.inl rfl) (pe_cal cG hr (by decide) rfl (pa_cons (pe_callB call_abs (by rfl) mabs (by decide +kernel) (pa_cons (pv 0) pa_nil)) (pa_cons (pv 1) pa_nil))))
      (pss_one (ps_ret (pe_tup (pa_cons (pe_op op_fdivW (pv 0) (pv 2)) (pa_cons (pe_op op_fdivW (pv 1) (pv 2)) pa_nil))))), ?_⟩
    have ea : (if a < 0 then -a else a) = (a.natAbs : Int) := by split <;> omega
    have g0 : 0 < Nat.gcd a.natAbs b := Nat.gcd_pos_of_pos_right _ hb
    have g1 : Nat.gcd a.natAbs b ≤ b := Nat.gcd_le_right _ hb
    have g2 : ((Nat.gcd a.natAbs b : Nat) : Int).natAbs < 2 ^ 3000 := by
      rw [Int.natAbs_natCast]; exact Nat.lt_of_le_of_lt g1 hb2
    refine ⟨_, rfl, _, rfl, _, rfl, a.natAbs, b, ?_, ?_⟩
    · show [V.int (if a < 0 then -a else a), V.int b] = _
      rw [ea]
    refine ⟨_, rfl, _, rfl, _, _, rfl, rfl, wide_div (by omega) g2 (by decide) (by decide), _, rfl, _, rfl, _, _, rfl, rfl, wide_div (by omega) g2 (by decide) (by decide), (by show 2 ≤ sizeLine; decide), fun p hp => ?_⟩
    exact k.new hp
/-! ### ways -/
def spWays : Sp := fun vs H Q _ => ∃ n p : Nat, vs = [.int n, .int p] ∧ n < 2 ^ 32 ∧ p < 2 ^ 29 ∧ Q (.int (Kp317.choose n p : Nat)) H
theorem scWays : FnScope ["days", "picked", "many", "step"] ["days", "picked"] (defScope sWays) := ⟨rfl, rfl, rfl, by decide +kernel, rfl, by decide +kernel, by decide +kernel⟩
theorem ok_ways (D : Wdef K mg "ways" sWays ["days", "picked"]) (mr : mg "range" = none) : Wcal P w K mg base "ways" 1 spWays := by
  refine D.cal fun f fd F => ?_
  refine F.ok scWays (fun vs H Q E h => ?_) (fun cdv A outer s H vs Q E hr h => ?_)
  · obtain ⟨a, b, rfl, _⟩ := h
    rfl
  · obtain ⟨n, p, rfl, hn, hp, k⟩ := h
    refine ⟨_, pss_cons (ps_set (i := 2) scWays.nd rfl (Or.inl rfl) pe_int)
      (pss_cons (ps_for PassesOwn.never rfl (pi_range1 rfl mr (pa_cons (pv 1) pa_nil)) (pg_name (i := 3) scWays.nd rfl (Or.inl rfl))
        (pss_one (ps_set (i := 2) scWays.nd rfl (Or.inl rfl) (pe_op op_fdiv (pe_op op_mul (pv 2) (pe_op op_sub (pv 0) (pv 3))) (pe_op op_add (pv 3) pe_int)))))
      (pss_one (ps_ret (pv 2)))), ?_⟩
    refine ⟨_, rfl, p, rfl, by omega, by omega, for_range (n := p) (fun i σ H' => H' = H ∧ ∃ v : Option V, σ = [some (.int n), some (.int p), some (.int (Kp317.choose n i : Nat)), v]) ⟨rfl, none, by cases n <;> rfl⟩ ?_ ?_⟩
    · rintro i σ H' hi ⟨rfl, v, rfl⟩
      refine ⟨_, rfl, _, rfl, _, rfl, _, _, rfl, rfl, _, _, rfl, rfl, .inr ⟨by omega, by omega⟩, _, rfl, _, _, rfl, rfl, _, _, rfl, rfl, ⟨by omega, by omega⟩, rfl, some (.int (0 + (i : Int))), ?_⟩
      have e := ways_turn n i
      have e0 : (0 : Int) + i = i := Int.zero_add _
      rw [e0]
      show [some (V.int (n : Int)), some (V.int (p : Int)), some (V.int ((Kp317.choose n i : Int) * ((n : Int) - i) / ((i : Int) + 1))), some (V.int (i : Int))] = _
      rw [e]
    · rintro σ H' ⟨rfl, v, rfl⟩
      exact ⟨_, rfl, k⟩
/-! ### weight -/
def spWeight : Sp := fun vs H Q _ => ∃ n m b : Nat, vs = [.int n, .int m, .int b] ∧ n < 2 ^ 32 ∧ m < 2 ^ 28 ∧ b < 2 ^ 32 ∧ Q (.int (Kp317.heavy n m b : Nat)) H
theorem scWeight : FnScope ["days", "looks", "fine", "total", "picked"] ["days", "looks", "fine"] (defScope sWeight) := ⟨rfl, rfl, rfl, by decide +kernel, rfl, by decide +kernel, by decide +kernel⟩
theorem ok_weight (D : Wdef K mg "weight" sWeight ["days", "looks", "fine"]) (cW : Wcal P w K mg base "ways" 1 spWays) (mr : mg "range" = none) : Wcal P w K mg base "weight" 2 spWeight := by
  refine D.cal fun f fd F => ?_
  refine F.ok scWeight (fun vs H Q E h => ?_) (fun cdv A outer s H vs Q E hr h => ?_)
  · obtain ⟨a, b, c, rfl, _⟩ := h
    rfl
  · obtain ⟨n, m, b, rfl, hn, hm, hb, k⟩ := h
    refine ⟨_, pss_cons (ps_set (i := 3) scWeight.nd rfl (Or.inl rfl) pe_int)
      (pss_cons (ps_for PassesOwn.never rfl (pi_range1 rfl mr (pa_cons (pe_op op_add (pv 1) pe_int) pa_nil)) (pg_name (i := 4) scWeight.nd rfl (Or.inl rfl))
        (pss_one (ps_set (i := 3) scWeight.nd rfl (Or.inl rfl) (pe_op op_add (pe_op op_mul (pv 3) (pv 2)) (pe_cal cW hr (by decide) rfl (pa_cons (pv 0) (pa_cons (pv 4) pa_nil)))))))
      (pss_one (ps_ret (pv 3)))), ?_⟩
    refine ⟨_, rfl, _, _, rfl, rfl, ((m + 1 : Nat) : Int), rfl, by omega, by omega, for_range (n := m + 1) (fun i σ H' => H' = H ∧ ∃ v : Option V, σ = [some (.int n), some (.int m), some (.int b), some (.int (hv n b i : Nat)), v]) ⟨rfl, none, rfl⟩ ?_ ?_⟩
    · rintro i σ H' hi ⟨rfl, v, rfl⟩
      have e0 : (0 : Int) + i = i := Int.zero_add _
      refine ⟨_, rfl, _, rfl, _, _, rfl, rfl, .inr ⟨by omega, by omega⟩, _, rfl, _, rfl, n, i, by rw [e0]; rfl, hn, by omega, _, _, rfl, rfl, rfl, some (.int (i : Int)), ?_⟩
      rw [e0]
      show [some (V.int (n : Int)), some (V.int (m : Int)), some (V.int (b : Int)), some (V.int ((hv n b i : Int) * b + (Kp317.choose n i : Nat))), some (V.int (i : Int))] = _
      rw [hv_turn n b i, Int.natCast_add, Int.natCast_mul]
    · rintro σ H' ⟨rfl, v, rfl⟩
      exact ⟨_, rfl, k⟩
/-! ### weighed_worth -/
def spWW : Sp := fun vs H Q _ => ∃ n m k : Nat, vs = [.int n, .int m, .int k] ∧ n < 2 ^ 29 ∧ m < 2 ^ 28 ∧ Q (.int (ww n m k)) H
theorem scWW : FnScope ["days", "looks", "misdeeds", "total", "day"] ["days", "looks", "misdeeds"] (defScope sWW) := ⟨rfl, rfl, rfl, by decide +kernel, rfl, by decide +kernel, by decide +kernel⟩
theorem ok_ww (D : Wdef K mg "weighed_worth" sWW ["days", "looks", "misdeeds"]) (cW : Wcal P w K mg base "ways" 1 spWays) (mr : mg "range" = none) (mm : mg "min" = none) : Wcal P w K mg base "weighed_worth" 2 spWW := by
  refine D.cal fun f fd F => ?_
  refine F.ok scWW (fun vs H Q E h => ?_) (fun cdv A outer s H vs Q E hr h => ?_)
  · obtain ⟨a, b, c, rfl, _⟩ := h
    rfl
  · obtain ⟨n, m, k', rfl, hn, hm, k⟩ := h
    refine ⟨_, pss_cons (ps_set (i := 3) scWW.nd rfl (Or.inl rfl) pe_int)
      (pss_cons (ps_for PassesOwn.never rfl (pi_range1 rfl mr (pa_cons (pe_callB (call_min2 rfl) (by rfl) mm (by decide +kernel) (pa_cons (pv 0) (pa_cons (pv 2) pa_nil))) pa_nil)) (pg_name (i := 4) scWW.nd rfl (Or.inl rfl))
        (pss_one (ps_aug (i := 3) scWW.nd rfl (Or.inl rfl) (pe_cal cW hr (by decide) rfl (pa_cons (pe_op op_sub (pe_op op_sub (pv 0) pe_int) (pv 4)) (pa_cons (pv 1) pa_nil))) ip_add)))
      (pss_one (ps_ret (pv 3)))), ?_⟩
    have em : (if (k' : Int) < n then (k' : Int) else n) = ((min n k' : Nat) : Int) := by split <;> omega
    refine ⟨_, rfl, _, rfl, _, _, rfl, ((min n k' : Nat) : Int), ?_, by omega, by omega, for_range (n := min n k') (fun i σ H' => H' = H ∧ ∃ v : Option V, σ = [some (.int n), some (.int m), some (.int k'), some (.int (ww n m i)), v]) ⟨rfl, none, by rw [ww_zero]; rfl⟩ ?_ ?_⟩
    · show [V.int (if (k' : Int) < n then (k' : Int) else n)] = _
      rw [em]
    · rintro i σ H' hi ⟨rfl, v, rfl⟩
      have e0 : (0 : Int) + i = i := Int.zero_add _
      have e1 : (n : Int) - 1 - i = ((n - 1 - i : Nat) : Int) := by omega
      refine ⟨_, rfl, _, rfl, _, _, rfl, rfl, _, rfl, _, _, rfl, rfl, _, rfl, n - 1 - i, m, by rw [e0]; show [V.int ((n : Int) - 1 - i), V.int (m : Int)] = _; rw [e1], by omega, by omega, _, _, rfl, rfl, rfl, some (.int (i : Int)), ?_⟩
      rw [e0]
      show [some (V.int (n : Int)), some (V.int (m : Int)), some (V.int (k' : Int)), some (V.int (ww n m i + (Kp317.choose (n - 1 - i) m : Nat))), some (V.int (i : Int))] = _
      rw [ww_turn n m i (by omega)]
    · rintro σ H' ⟨rfl, v, rfl⟩
      rw [ww_min]
      exact ⟨_, rfl, k⟩
end
end Wl

set_option Elab.async false
set_option maxRecDepth 100000
set_option maxHeartbeats 2000000
namespace Wl
open PySem PySem.Spec PyProof.Rows L2
section
variable {P : Program} {w : World} {K : PySem.W.Frag} {mg : Str → Option Value} {base : Heap}
theorem pow600 {x : Nat} (h : x < 2 ^ 72) : x < 2 ^ 3000 := pow_mono h (by decide)
/-! ### worth -/
def spWorth (K : PySem.W.Frag) : Sp := fun vs H Q _ => ∃ n m k b : Nat, vs = [.int n, .int m, .int k, .int b] ∧ n ≤ 8 ∧ m ≤ 8 ∧ 0 < b ∧ b ≤ 99 ∧ givesQ K H Q (Kp317.worth n m k b)
theorem scWorth : FnScope ["days", "looks", "misdeeds", "fine"] ["days", "looks", "misdeeds", "fine"] (defScope sWorth) := ⟨rfl, rfl, rfl, by decide +kernel, rfl, by decide +kernel, by decide +kernel⟩
theorem ok_worth (D : Wdef K mg "worth" sWorth ["days", "looks", "misdeeds", "fine"]) (cL : Wcal P w K mg base "lowest" 2 (spLow K)) (cV : Wcal P w K mg base "weighed_worth" 2 spWW) (cW : Wcal P w K mg base "weight" 2 spWeight) : Wcal P w K mg base "worth" 3 (spWorth K) := by
  refine D.cal fun f fd F => ?_
  refine F.ok scWorth (fun vs H Q E h => ?_) (fun cdv A outer s H vs Q E hr h => ?_)
  · obtain ⟨a, b, c, d, rfl, _⟩ := h
    rfl
  · obtain ⟨n, m, k', b, rfl, hn, hm, hb, hb2, k⟩ := h
    refine ⟨_, pss_one (ps_ret (pe_cal cL hr (by decide) rfl (pa_cons (pe_cal cV hr (by decide) rfl (pa_cons (pv 0) (pa_cons (pv 1) (pa_cons (pv 2) pa_nil)))) (pa_cons (pe_cal cW hr (by decide) rfl (pa_cons (pv 0) (pa_cons (pv 1) (pa_cons (pv 3) pa_nil)))) pa_nil)))), ?_⟩
    exact ⟨_, rfl, _, rfl, _, rfl, n, m, k', rfl, by omega, by omega, _, rfl, _, rfl, _, rfl, n, m, b, rfl, by omega, by omega, by omega, ww n m k', Kp317.heavy n m b, rfl, heavy_pos n m hb, pow600 (heavy_lt8 hn hm hb2), k⟩
/-! ### look_chance -/
def spLook (K : PySem.W.Frag) : Sp := fun vs H Q _ => ∃ n m b : Nat, vs = [.int n, .int m, .int b] ∧ 0 < n ∧ n ≤ 8 ∧ m ≤ 8 ∧ 0 < b ∧ b ≤ 99 ∧ givesQ K H Q (Kp317.look n m b)
theorem scLook : FnScope ["days", "looks", "fine"] ["days", "looks", "fine"] (defScope sLook) := ⟨rfl, rfl, rfl, by decide +kernel, rfl, by decide +kernel, by decide +kernel⟩
theorem ok_look (D : Wdef K mg "look_chance" sLook ["days", "looks", "fine"]) (cL : Wcal P w K mg base "lowest" 2 (spLow K)) (cW : Wcal P w K mg base "weight" 2 spWeight) (cN : Wtup K mg "NOTHING" (vQ (0, 1))) : Wcal P w K mg base "look_chance" 3 (spLook K) := by
  obtain ⟨t0, m0, h00⟩ := cN
  refine D.cal fun f fd F => ?_
  refine F.ok scLook (fun vs H Q E h => ?_) (fun cdv A outer s H vs Q E hr h => ?_)
  · obtain ⟨a, b, c, rfl, _⟩ := h
    rfl
  · obtain ⟨n, m, b, rfl, h0, hn, hm, hb, hb2, k⟩ := h
    refine ⟨_, pss_cons (ps_if (pt_cmpR op_eq (pv 1) pe_int (nomark _)) (pss_one (ps_ret (pe_glob (v := .ref t0) rfl m0 rfl))) pss_nil)
      (pss_one (ps_ret (pe_cal cL hr (by decide) rfl (pa_cons (pe_cal cW hr (by decide) rfl (pa_cons (pe_op op_sub (pv 0) pe_int) (pa_cons (pe_op op_sub (pv 1) pe_int) (pa_cons (pv 2) pa_nil)))) (pa_cons (pe_cal cW hr (by decide) rfl (pa_cons (pv 0) (pa_cons (pv 1) (pa_cons (pv 2) pa_nil)))) pa_nil))))), ?_⟩
    refine ⟨_, rfl, rfl, _, rfl, ite2 (fun c => ?_) (fun c => ?_)⟩
    · have c : m = 0 := by
        have : V.int (m : Int) = V.int 0 := by simpa using c
        injection this with this
        omega
      have e : Kp317.look n m b = (0, 1) := by unfold Kp317.look; rw [if_pos (Or.inr c)]
      rw [e] at k
      exact k t0 H (Same.refl H) (h00 H)
    · have c : m ≠ 0 := by
        intro e
        subst e
        exact c (by simp)
      have e : Kp317.look n m b = Kp317.red (Kp317.heavy (n - 1) (m - 1) b : Nat) (Kp317.heavy n m b) := by unfold Kp317.look; rw [if_neg (by omega)]
      rw [e] at k
      have e1 : (n : Int) - 1 = ((n - 1 : Nat) : Int) := by omega
      have e2 : (m : Int) - 1 = ((m - 1 : Nat) : Int) := by omega
      refine ⟨_, rfl, _, _, rfl, rfl, _, rfl, _, _, rfl, rfl, _, rfl, n - 1, m - 1, b, by rw [← e1, ← e2]; rfl, by omega, by omega, by omega, _, rfl, _, rfl, _, rfl, n, m, b, rfl, by omega, by omega, by omega, _, Kp317.heavy n m b, rfl, heavy_pos n m hb, pow600 (heavy_lt8 hn hm hb2), k⟩
/-! ### dare_chance -/
def spDare (K : PySem.W.Frag) : Sp := fun vs H Q _ => ∃ n m k b : Nat, vs = [.int n, .int m, .int k, .int b] ∧ 0 < n ∧ n ≤ 8 ∧ m ≤ 8 ∧ 0 < b ∧ b ≤ 99 ∧ givesQ K H Q (Kp317.dare n m k b)
theorem scDare : FnScope ["days", "looks", "misdeeds", "fine", "looked_weight", "passed_weight", "looked_waited", "passed_waited", "passed_dared", "daring", "waiting"] ["days", "looks", "misdeeds", "fine"] (defScope sDare) := ⟨rfl, rfl, rfl, by decide +kernel, rfl, by decide +kernel, by decide +kernel⟩
theorem int_eq_zero {m : Nat} (c : decide (V.int (m : Int) = V.int 0) = true) : m = 0 := by
  have : V.int (m : Int) = V.int 0 := by simpa using c
  injection this with this
  omega
theorem int_ne_zero {m : Nat} (c : ¬ decide (V.int (m : Int) = V.int 0) = true) : m ≠ 0 := by
  intro e
  subst e
  exact c (by simp)
theorem ok_dare (D : Wdef K mg "dare_chance" sDare ["days", "looks", "misdeeds", "fine"]) (cL : Wcal P w K mg base "lowest" 2 (spLow K)) (cV : Wcal P w K mg base "weighed_worth" 2 spWW) (cW : Wcal P w K mg base "weight" 2 spWeight) (cN : Wtup K mg "NOTHING" (vQ (0, 1))) (cC : Wtup K mg "CERTAIN" (vQ (1, 1))) : Wcal P w K mg base "dare_chance" 3 (spDare K) := by
  obtain ⟨t0, m0, h00⟩ := cN
  obtain ⟨t1, m1, h11⟩ := cC
  refine D.cal fun f fd F => ?_
  refine F.ok scDare (fun vs H Q E h => ?_) (fun cdv A outer s H vs Q E hr h => ?_)
  · obtain ⟨a, b, c, d, rfl, _⟩ := h
    rfl
  · obtain ⟨n, m, k', b, rfl, h0, hn, hm, hb, hb2, k⟩ := h
    refine ⟨_, pss_cons (ps_if (pt_cmpR op_eq (pv 2) pe_int (nomark _)) (pss_one (ps_ret (pe_glob (v := .ref t0) rfl m0 rfl))) pss_nil)
      (pss_cons (ps_if (pt_cmpR op_eq (pv 1) pe_int (nomark _)) (pss_one (ps_ret (pe_glob (v := .ref t1) rfl m1 rfl))) pss_nil)
      (pss_cons (ps_set (i := 4) scDare.nd rfl (Or.inl rfl) (pe_cal cW hr (by decide) rfl (pa_cons (pe_op op_sub (pv 0) pe_int) (pa_cons (pe_op op_sub (pv 1) pe_int) (pa_cons (pv 3) pa_nil)))))
      (pss_cons (ps_set (i := 5) scDare.nd rfl (Or.inl rfl) (pe_cal cW hr (by decide) rfl (pa_cons (pe_op op_sub (pv 0) pe_int) (pa_cons (pv 1) (pa_cons (pv 3) pa_nil)))))
      (pss_cons (ps_set (i := 6) scDare.nd rfl (Or.inl rfl) (pe_op op_mul (pe_cal cV hr (by decide) rfl (pa_cons (pe_op op_sub (pv 0) pe_int) (pa_cons (pe_op op_sub (pv 1) pe_int) (pa_cons (pv 2) pa_nil)))) (pv 5)))
      (pss_cons (ps_set (i := 7) scDare.nd rfl (Or.inl rfl) (pe_op op_mul (pe_cal cV hr (by decide) rfl (pa_cons (pe_op op_sub (pv 0) pe_int) (pa_cons (pv 1) (pa_cons (pv 2) pa_nil)))) (pv 4)))
      (pss_cons (ps_set (i := 8) scDare.nd rfl (Or.inl rfl) (pe_op op_mul (pe_cal cV hr (by decide) rfl (pa_cons (pe_op op_sub (pv 0) pe_int) (pa_cons (pv 1) (pa_cons (pe_op op_sub (pv 2) pe_int) pa_nil)))) (pv 4)))
      (pss_cons (ps_set (i := 9) scDare.nd rfl (Or.inl rfl) (pe_op op_sub (pv 6) (pv 7)))
      (pss_cons (ps_set (i := 10) scDare.nd rfl (Or.inl rfl) (pe_op op_add (pe_op op_mulW (pe_op op_mul (pe_op op_add (pv 3) pe_int) (pv 4)) (pv 5)) (pv 8)))
      (pss_one (ps_ret (pe_cal cL hr (by decide) rfl (pa_cons (pv 9) (pa_cons (pe_op op_add (pv 9) (pv 10)) pa_nil))))))))))))), ?_⟩
    refine ⟨_, rfl, rfl, _, rfl, ite2 (fun c => ?_) (fun c => ?_)⟩
    · have c := int_eq_zero c
      have e : Kp317.dare n m k' b = (0, 1) := by unfold Kp317.dare; rw [if_pos (Or.inr c)]
      rw [e] at k
      exact k t0 H (Same.refl H) (h00 H)
    have c := int_ne_zero c
    refine ⟨_, rfl, rfl, _, rfl, ite2 (fun c1 => ?_) (fun c1 => ?_)⟩
    · have c1 := int_eq_zero c1
      have e : Kp317.dare n m k' b = (1, 1) := by unfold Kp317.dare; rw [if_neg (by omega), if_pos c1]
      rw [e] at k
      exact k t1 H (Same.refl H) (h11 H)
    have c1 := int_ne_zero c1
    have e1 : (n : Int) - 1 = ((n - 1 : Nat) : Int) := by omega
    have e2 : (m : Int) - 1 = ((m - 1 : Nat) : Int) := by omega
    have e3 : (k' : Int) - 1 = ((k' - 1 : Nat) : Int) := by omega
    have l1 := heavy_lt8 (show n - 1 ≤ 8 by omega) (show m - 1 ≤ 8 by omega) hb2
    have l2 := heavy_lt8 (show n - 1 ≤ 8 by omega) hm hb2
    have w1 := ww_le (m - 1) k' (show n - 1 ≤ 8 by omega)
    have w2 := ww_le m k' (show n - 1 ≤ 8 by omega)
    have w3 := ww_le m (k' - 1) (show n - 1 ≤ 8 by omega)
    have v1 := ww_nonneg (n - 1) (m - 1) k'
    have v2 := ww_nonneg (n - 1) m k'
    have v3 := ww_nonneg (n - 1) m (k' - 1)
    have l3 : (((b : Int) + 1) * (Kp317.heavy (n - 1) (m - 1) b : Nat)).natAbs < 2 ^ 80 := by
      rw [Int.natAbs_mul]
      have x1 : ((b : Int) + 1).natAbs < 2 ^ 8 := by omega
      have x2 : ((Kp317.heavy (n - 1) (m - 1) b : Nat) : Int).natAbs < 2 ^ 72 := by rw [Int.natAbs_natCast]; exact l1
      exact Nat.lt_of_lt_of_le (Nat.mul_lt_mul'' x1 x2) (by decide)
    have l4 : ((Kp317.heavy (n - 1) m b : Nat) : Int).natAbs < 2 ^ 72 := by rw [Int.natAbs_natCast]; exact l2
    refine ⟨_, rfl, _, _, rfl, rfl, _, rfl, _, _, rfl, rfl, _, rfl, n - 1, m - 1, b, by rw [← e1, ← e2]; rfl, by omega, by omega, by omega, ?_⟩
    refine ⟨_, rfl, _, _, rfl, rfl, _, rfl, _, rfl, n - 1, m, b, by rw [← e1]; rfl, by omega, by omega, by omega, ?_⟩
    refine ⟨_, rfl, _, _, rfl, rfl, _, rfl, _, _, rfl, rfl, _, rfl, n - 1, m - 1, k', by rw [← e1, ← e2]; rfl, by omega, by omega, _, rfl, _, _, rfl, rfl, .inl ⟨by omega, by omega⟩, ?_⟩
    refine ⟨_, rfl, _, _, rfl, rfl, _, rfl, _, rfl, n - 1, m, k', by rw [← e1]; rfl, by omega, by omega, _, rfl, _, _, rfl, rfl, .inl ⟨by omega, by omega⟩, ?_⟩
    refine ⟨_, rfl, _, _, rfl, rfl, _, rfl, _, rfl, _, _, rfl, rfl, n - 1, m, k' - 1, by rw [← e1, ← e3]; rfl, by omega, by omega, _, rfl, _, _, rfl, rfl, .inl ⟨by omega, by omega⟩, ?_⟩
    refine ⟨_, rfl, _, rfl, _, _, rfl, rfl, ?_⟩
    refine ⟨_, rfl, _, _, rfl, rfl, _, rfl, _, _, rfl, rfl, .inl ⟨by omega, by omega⟩, _, rfl, _, _, rfl, rfl, wide_mul l3 l4 (by decide) (by decide) (by decide), _, rfl, _, _, rfl, rfl, ?_⟩
    have hp := dare_pos n m k' hb
    have hT : ((daring n m k' b + waiting n m k' b).toNat : Int) = daring n m k' b + waiting n m k' b := by omega
    rw [dare_eq h0 (by omega) (by omega) hb] at k
    refine ⟨_, rfl, _, rfl, _, rfl, _, _, rfl, rfl, daring n m k' b, (daring n m k' b + waiting n m k' b).toNat, by rw [hT]; rfl, by omega, pow_mono (dare_lt2 k' hn hm hb2 hb).2.1 (by decide), k⟩
end
end Wl

set_option Elab.async false
set_option maxRecDepth 100000
set_option maxHeartbeats 2000000
set_option exponentiation.threshold 4000
namespace Wl
open PySem PySem.Spec PyProof.Rows L2
section
variable {P : Program} {w : World} {K : PySem.W.Frag} {mg : Str → Option Value} {base : Heap}
/-! ### less, one_more, mixed -/
def spLess (K : PySem.W.Frag) : Sp := fun vs H Q _ => ∃ (t u : Addr) (x y : Kp317.Q), vs = [.ref t, .ref u] ∧ SqT K H t (vQ x) ∧ SqT K H u (vQ y) ∧ Fr 3000 x ∧ Fr 3000 y ∧ Q (.bl (Kp317.less x y)) H
theorem scLess : FnScope ["first", "second"] ["first", "second"] (defScope sLess) := ⟨rfl, rfl, rfl, by decide +kernel, rfl, by decide +kernel, by decide +kernel⟩
theorem ok_less (D : Wdef K mg "less" sLess ["first", "second"]) : Wcal P w K mg base "less" 1 (spLess K) := by
  refine D.cal fun f fd F => ?_
  refine F.ok scLess (fun vs H Q E h => ?_) (fun cdv A outer s H vs Q E hr h => ?_)
  · obtain ⟨t, u, x, y, rfl, _⟩ := h
    rfl
  · obtain ⟨t, u, x, y, rfl, ht, hu, hx, hy, k⟩ := h
    refine ⟨_, pss_one (ps_ret (pe_cmpR op_lt (pe_op op_mulW (pe_ix ix_tup (pv 0) pe_int (fun _ _ => rfl)) (pe_ix ix_tup (pv 1) pe_int (fun _ _ => rfl))) (pe_op op_mulW (pe_ix ix_tup (pv 1) pe_int (fun _ _ => rfl)) (pe_ix ix_tup (pv 0) pe_int (fun _ _ => rfl))) (nomark _))), ?_⟩
    exact ⟨_, rfl, t, _, _, _, rfl, rfl, ht, rfl, _, rfl, u, _, _, _, rfl, rfl, hu, rfl, _, _, rfl, rfl, wide_mul hx.2.2 (nat_pow hy.2.1) (by decide) (by decide) (by decide),
      _, rfl, u, _, _, _, rfl, rfl, hu, rfl, _, rfl, t, _, _, _, rfl, rfl, ht, rfl, _, _, rfl, rfl, wide_mul hy.2.2 (nat_pow hx.2.1) (by decide) (by decide) (by decide), _, _, rfl, rfl, k⟩
def spOne (K : PySem.W.Frag) : Sp := fun vs H Q _ => ∃ (t : Addr) (x : Kp317.Q), vs = [.ref t] ∧ SqT K H t (vQ x) ∧ givesQ K H Q (oneQ x)
theorem scOne : FnScope ["fraction"] ["fraction"] (defScope sOne) := ⟨rfl, rfl, rfl, by decide +kernel, rfl, by decide +kernel, by decide +kernel⟩
theorem ok_one (D : Wdef K mg "one_more" sOne ["fraction"]) : Wcal P w K mg base "one_more" 1 (spOne K) := by
  refine D.cal fun f fd F => ?_
  refine F.ok scOne (fun vs H Q E h => ?_) (fun cdv A outer s H vs Q E hr h => ?_)
  · obtain ⟨t, x, rfl, _⟩ := h
    rfl
  · obtain ⟨t, x, rfl, ht, k⟩ := h
    refine ⟨_, pss_one (ps_ret (pe_tup (pa_cons (pe_op op_add (pe_ix ix_tup (pv 0) pe_int (fun _ _ => rfl)) (pe_ix ix_tup (pv 0) pe_int (fun _ _ => rfl))) (pa_cons (pe_ix ix_tup (pv 0) pe_int (fun _ _ => rfl)) pa_nil)))), ?_⟩
    exact ⟨_, rfl, t, _, _, _, rfl, rfl, ht, rfl, _, rfl, t, _, _, _, rfl, rfl, ht, rfl, _, _, rfl, rfl, _, rfl, t, _, _, _, rfl, rfl, ht, rfl, (by show 2 ≤ sizeLine; decide), fun p hp => k.new hp⟩
def spMix (K : PySem.W.Frag) : Sp := fun vs H Q _ => ∃ (tc tf ts : Addr) (c f s : Kp317.Q), vs = [.ref tc, .ref tf, .ref ts] ∧ SqT K H tc (vQ c) ∧ SqT K H tf (vQ f) ∧ SqT K H ts (vQ s) ∧ Fr 900 c ∧ Fr 900 f ∧ Fr 900 s ∧ givesQ K H Q (mixQ c f s)
theorem scMix : FnScope ["chance", "first", "second", "by_first", "by_second"] ["chance", "first", "second"] (defScope sMix) := ⟨rfl, rfl, rfl, by decide +kernel, rfl, by decide +kernel, by decide +kernel⟩
theorem ok_mix (D : Wdef K mg "mixed" sMix ["chance", "first", "second"]) (cL : Wcal P w K mg base "lowest" 2 (spLow K)) : Wcal P w K mg base "mixed" 3 (spMix K) := by
  refine D.cal fun f fd F => ?_
  refine F.ok scMix (fun vs H Q E h => ?_) (fun cdv A outer s H vs Q E hr h => ?_)
  · obtain ⟨tc, tf, ts, c, f, s, rfl, _⟩ := h
    rfl
  · obtain ⟨tc, tf, ts, c, f, s, rfl, hc, hf, hs, bc, bf, bs, k⟩ := h
    refine ⟨_, pss_cons (ps_set (i := 3) scMix.nd rfl (Or.inl rfl) (pe_op op_mulW (pe_op op_mulW (pe_ix ix_tup (pv 0) pe_int (fun _ _ => rfl)) (pe_ix ix_tup (pv 1) pe_int (fun _ _ => rfl))) (pe_ix ix_tup (pv 2) pe_int (fun _ _ => rfl))))
      (pss_cons (ps_set (i := 4) scMix.nd rfl (Or.inl rfl) (pe_op op_mulW (pe_op op_mulW (pe_op op_sub (pe_ix ix_tup (pv 0) pe_int (fun _ _ => rfl)) (pe_ix ix_tup (pv 0) pe_int (fun _ _ => rfl))) (pe_ix ix_tup (pv 2) pe_int (fun _ _ => rfl))) (pe_ix ix_tup (pv 1) pe_int (fun _ _ => rfl))))
      (pss_one (ps_ret (pe_cal cL hr (by decide) rfl (pa_cons (pe_op op_add (pv 3) (pv 4)) (pa_cons (pe_op op_mulW (pe_op op_mulW (pe_ix ix_tup (pv 0) pe_int (fun _ _ => rfl)) (pe_ix ix_tup (pv 1) pe_int (fun _ _ => rfl))) (pe_ix ix_tup (pv 2) pe_int (fun _ _ => rfl))) pa_nil)))))), ?_⟩
    have u := fr_mixU bc bf bs
    refine ⟨_, rfl, tc, _, _, _, rfl, rfl, hc, rfl, _, rfl, tf, _, _, _, rfl, rfl, hf, rfl, _, _, rfl, rfl, wide_mul bc.2.2 bf.2.2 (by decide) (by decide) (by decide), _, rfl, ts, _, _, _, rfl, rfl, hs, rfl, _, _, rfl, rfl, wide_mul (mul_pow bc.2.2 bf.2.2) (nat_pow bs.2.1) (by decide) (by decide) (by decide), ?_⟩
    refine ⟨_, rfl, tc, _, _, _, rfl, rfl, hc, rfl, _, rfl, tc, _, _, _, rfl, rfl, hc, rfl, _, _, rfl, rfl, _, rfl, ts, _, _, _, rfl, rfl, hs, rfl, _, _, rfl, rfl, wide_mul (sub_pow (nat_pow bc.2.1) bc.2.2) bs.2.2 (by decide) (by decide) (by decide), _, rfl, tf, _, _, _, rfl, rfl, hf, rfl, _, _, rfl, rfl, wide_mul (mul_pow (sub_pow (nat_pow bc.2.1) bc.2.2) bs.2.2) (nat_pow bf.2.1) (by decide) (by decide) (by decide), ?_⟩
    refine ⟨_, rfl, _, rfl, _, _, rfl, rfl, ?_⟩
    refine ⟨_, rfl, tc, _, _, _, rfl, rfl, hc, rfl, _, rfl, tf, _, _, _, rfl, rfl, hf, rfl, _, _, rfl, rfl, wide_mul (nat_pow bc.2.1) (nat_pow bf.2.1) (by decide) (by decide) (by decide), _, rfl, ts, _, _, _, rfl, rfl, hs, rfl, _, _, rfl, rfl, wide_mul (mul_pow (nat_pow bc.2.1) (nat_pow bf.2.1)) (nat_pow bs.2.1) (by decide) (by decide) (by decide), ?_⟩
    refine ⟨mixA c f s, c.2 * f.2 * s.2, ?_, u.1, pow_mono u.2.1 (by decide), k⟩
    rw [Int.natCast_mul, Int.natCast_mul]
    rfl
end
end Wl

set_option Elab.async false
set_option maxRecDepth 100000
set_option maxHeartbeats 2000000
set_option exponentiation.threshold 4000
namespace Wl
open PySem PySem.Spec PyProof.Rows L2
section
variable {P : Program} {w : World} {K : PySem.W.Frag} {mg : Str → Option Value} {base : Heap}
theorem givesQ.same {H H1 : Hp} {Q : VK} {x : Kp317.Q} (k : givesQ K H Q x) (s : Same H H1) : givesQ K H1 Q x := fun p H2 s2 h => k p H2 (s.trans s2) h
theorem fr_cent {x : Nat} (h : x ≤ 100) : Fr 900 ((x : Int), 100) := by
  refine Fr.mono (a := 7) ⟨by show 0 < 100; decide, by show 100 < 2 ^ 7; decide, ?_⟩ (by decide)
  show ((x : Nat) : Int).natAbs < 2 ^ 7
  omega
theorem fr_seen {b : Nat} (h : b ≤ 99) : Fr 900 (-(b : Int), 1) := by
  refine Fr.mono (a := 7) ⟨by show 0 < 1; decide, by show 1 < 2 ^ 7; decide, ?_⟩ (by decide)
  show (-((b : Nat) : Int)).natAbs < 2 ^ 7
  omega
theorem fr_w {n m k b : Nat} (hn : n ≤ 8) (hm : m ≤ 8) (hb : 0 < b) (hb2 : b ≤ 99) : Fr 900 (Kp317.worth n m k b) := (fr_worth hn hm hb hb2).mono (by decide)
theorem fr_w1 {n m k b : Nat} (hn : n ≤ 8) (hm : m ≤ 8) (hb : 0 < b) (hb2 : b ≤ 99) : Fr 900 (oneQ (Kp317.worth n m k b)) := (fr_one (fr_worth hn hm hb hb2)).mono (by decide)
theorem fr_mix3 {c f s : Kp317.Q} (hc : Fr 900 c) (hf : Fr 900 f) (hs : Fr 900 s) : Fr 3000 (mixQ c f s) := (fr_mix hc hf hs).mono (by decide)
/-! ### worth_if_looked -/
def spIfL (K : PySem.W.Frag) : Sp := fun vs H Q _ => ∃ (n m k b x : Nat) (tc : Addr), vs = [.int n, .int m, .int k, .int b, .ref tc] ∧ SqT K H tc (vQ ((x : Int), 100)) ∧ 0 < n ∧ n ≤ 8 ∧ m ≤ 8 ∧ 0 < b ∧ b ≤ 99 ∧ x ≤ 100 ∧ (m = 0 → x = 0) ∧ givesQ K H Q (Kp317.ifLook n m k b (Kp317.red x 100))
theorem scIfL : FnScope ["days", "looks", "misdeeds", "fine", "chance", "dared", "waited"] ["days", "looks", "misdeeds", "fine", "chance"] (defScope sIfL) := ⟨rfl, rfl, rfl, by decide +kernel, rfl, by decide +kernel, by decide +kernel⟩
theorem ok_ifl (D : Wdef K mg "worth_if_looked" sIfL ["days", "looks", "misdeeds", "fine", "chance"]) (cLs : Wcal P w K mg base "less" 1 (spLess K)) (cO : Wcal P w K mg base "one_more" 1 (spOne K)) (cM : Wcal P w K mg base "mixed" 3 (spMix K)) (cW : Wcal P w K mg base "worth" 3 (spWorth K)) (cN : Wtup K mg "NOTHING" (vQ (0, 1))) :
    Wcal P w K mg base "worth_if_looked" 4 (spIfL K) := by
  obtain ⟨t0, m0, h00⟩ := cN
  refine D.cal fun f fd F => ?_
  refine F.ok scIfL (fun vs H Q E h => ?_) (fun cdv A outer s H vs Q E hr h => ?_)
  · obtain ⟨n, m, k', b, x, tc, rfl, _⟩ := h
    rfl
  · obtain ⟨n, m, k', b, x, tc, rfl, hc, h0, hn, hm, hb, hb2, hx, hmx, k⟩ := h
    refine ⟨_, pss_cons (ps_if (pt_cmpR op_eq (pv 2) pe_int (nomark _)) (pss_one (ps_ret (pe_glob (v := .ref t0) rfl m0 rfl))) pss_nil)
      (pss_cons (ps_if (pt_cmpR op_eq (pv 1) pe_int (nomark _)) (pss_one (ps_ret (pe_cal cW hr (by decide) rfl (pa_cons (pv 0) (pa_cons (pv 1) (pa_cons (pv 2) (pa_cons (pv 3) pa_nil))))))) pss_nil)
      (pss_cons (ps_set (i := 5) scIfL.nd rfl (Or.inl rfl) (pe_cal cM hr (by decide) rfl (pa_cons (pv 4) (pa_cons (pe_tup (pa_cons (pe_un un_neg (pv 3)) (pa_cons pe_int pa_nil))) (pa_cons (pe_cal cO hr (by decide) rfl (pa_cons (pe_cal cW hr (by decide) rfl (pa_cons (pe_op op_sub (pv 0) pe_int) (pa_cons (pv 1) (pa_cons (pe_op op_sub (pv 2) pe_int) (pa_cons (pv 3) pa_nil))))) pa_nil)) pa_nil)))))
      (pss_cons (ps_set (i := 6) scIfL.nd rfl (Or.inl rfl) (pe_cal cM hr (by decide) rfl (pa_cons (pv 4) (pa_cons (pe_cal cW hr (by decide) rfl (pa_cons (pe_op op_sub (pv 0) pe_int) (pa_cons (pe_op op_sub (pv 1) pe_int) (pa_cons (pv 2) (pa_cons (pv 3) pa_nil))))) (pa_cons (pe_cal cW hr (by decide) rfl (pa_cons (pe_op op_sub (pv 0) pe_int) (pa_cons (pv 1) (pa_cons (pv 2) (pa_cons (pv 3) pa_nil))))) pa_nil)))))
      (pss_one (ps_ret (pe_ifExp (pt_val (pe_cal cLs hr (by decide) rfl (pa_cons (pv 5) (pa_cons (pv 6) pa_nil)))) (pv 6) (pv 5))))))), ?_⟩
    refine ⟨_, rfl, rfl, _, rfl, ite2 (fun c => ?_) (fun c => ?_)⟩
    · have c := int_eq_zero c
      have e : Kp317.ifLook n m k' b (Kp317.red x 100) = (0, 1) := by unfold Kp317.ifLook; dsimp only; rw [if_pos c]
      rw [e] at k
      exact k t0 H (Same.refl H) (h00 H)
    have c := int_ne_zero c
    refine ⟨_, rfl, rfl, _, rfl, ite2 (fun c1 => ?_) (fun c1 => ?_)⟩
    · have c1 := int_eq_zero c1
      have ex := hmx c1
      subst ex c1
      rw [iflook_free hb (by omega) c] at k
      exact ⟨_, rfl, _, rfl, _, rfl, _, rfl, n, 0, k', b, rfl, hn, hm, hb, hb2, k⟩
    have c1 := int_ne_zero c1
    have e1 : (n : Int) - 1 = ((n - 1 : Nat) : Int) := by omega
    have e2 : (m : Int) - 1 = ((m - 1 : Nat) : Int) := by omega
    have e3 : (k' : Int) - 1 = ((k' - 1 : Nat) : Int) := by omega
    rw [iflook_eq hb c] at k
    refine ⟨_, rfl, _, rfl, _, rfl, (by show 2 ≤ sizeLine; decide), fun ps hps => ?_⟩
    refine ⟨_, rfl, _, _, rfl, rfl, _, rfl, _, rfl, _, _, rfl, rfl, _, rfl, n - 1, m, k' - 1, b, by rw [← e1, ← e3]; rfl, by omega, hm, hb, hb2, fun tw H1 s1 hw => ?_⟩
    refine ⟨tw, _, rfl, hw, fun to H2 s2 ho => ?_⟩
    have s0 := same_new (.tup [.int (-(b : Int)), .int 1]) hps
    have hseen : SqT K H2 ps (vQ (-(b : Int), 1)) := same_tup (s1.trans s2) (SqT.of upd_same)
    have sH2 : Same H H2 := (s0.trans s1).trans s2
    refine ⟨tc, ps, to, _, _, _, rfl, same_tup sH2 hc, hseen, ho, fr_cent hx, fr_seen hb2, fr_w1 (by omega) hm hb hb2, fun td H3 s3 hd => ?_⟩
    refine ⟨_, rfl, _, rfl, _, _, rfl, rfl, _, rfl, _, _, rfl, rfl, _, rfl, _, rfl, n - 1, m - 1, k', b, by rw [← e1, ← e2]; rfl, by omega, by omega, hb, hb2, fun t4 H4 s4 h4 => ?_⟩
    refine ⟨_, rfl, _, _, rfl, rfl, _, rfl, _, rfl, _, rfl, n - 1, m, k', b, by rw [← e1]; rfl, by omega, hm, hb, hb2, fun t5 H5 s5 h5 => ?_⟩
    have sH5 : Same H H5 := ((sH2.trans s3).trans s4).trans s5
    refine ⟨tc, t4, t5, _, _, _, rfl, same_tup sH5 hc, same_tup s5 h4, h5, fr_cent hx, fr_w (by omega) (by omega) hb hb2, fr_w (by omega) hm hb hb2, fun tl H6 s6 hl => ?_⟩
    have hd6 := same_tup ((s4.trans s5).trans s6) hd
    refine ⟨_, rfl, _, rfl, td, tl, _, _, rfl, hd6, hl, fr_mix3 (fr_cent hx) (fr_seen hb2) (fr_w1 (by omega) hm hb hb2), fr_mix3 (fr_cent hx) (fr_w (by omega) (by omega) hb hb2) (fr_w (by omega) hm hb hb2), _, rfl, ?_⟩
    unfold Kp317.greater at k
    refine ite2 (fun c2 => ?_) (fun c2 => ?_)
    · rw [if_pos c2] at k
      exact ⟨_, rfl, k tl H6 (sH5.trans s6) hl⟩
    · rw [if_neg c2] at k
      exact ⟨_, rfl, k td H6 (sH5.trans s6) hd6⟩
/-! ### worth_if_dared -/
def spIfD (K : PySem.W.Frag) : Sp := fun vs H Q _ => ∃ (n m k b x : Nat) (tc : Addr), vs = [.int n, .int m, .int k, .int b, .ref tc] ∧ SqT K H tc (vQ ((x : Int), 100)) ∧ 0 < n ∧ n ≤ 8 ∧ m ≤ 8 ∧ 0 < b ∧ b ≤ 99 ∧ x ≤ 100 ∧ givesQ K H Q (if k = 0 then (0, 1) else Kp317.ifDare n m k b (Kp317.red x 100))
theorem scIfD : FnScope ["days", "looks", "misdeeds", "fine", "chance", "dared", "passed", "looked"] ["days", "looks", "misdeeds", "fine", "chance"] (defScope sIfD) := ⟨rfl, rfl, rfl, by decide +kernel, rfl, by decide +kernel, by decide +kernel⟩
theorem ok_ifd (D : Wdef K mg "worth_if_dared" sIfD ["days", "looks", "misdeeds", "fine", "chance"]) (cLs : Wcal P w K mg base "less" 1 (spLess K)) (cO : Wcal P w K mg base "one_more" 1 (spOne K)) (cM : Wcal P w K mg base "mixed" 3 (spMix K)) (cW : Wcal P w K mg base "worth" 3 (spWorth K)) (cN : Wtup K mg "NOTHING" (vQ (0, 1))) :
    Wcal P w K mg base "worth_if_dared" 4 (spIfD K) := by
  obtain ⟨t0, m0, h00⟩ := cN
  refine D.cal fun f fd F => ?_
  refine F.ok scIfD (fun vs H Q E h => ?_) (fun cdv A outer s H vs Q E hr h => ?_)
  · obtain ⟨n, m, k', b, x, tc, rfl, _⟩ := h
    rfl
  · obtain ⟨n, m, k', b, x, tc, rfl, hc, h0, hn, hm, hb, hb2, hx, k⟩ := h
    refine ⟨_, pss_cons (ps_if (pt_cmpR op_eq (pv 2) pe_int (nomark _)) (pss_one (ps_ret (pe_glob (v := .ref t0) rfl m0 rfl))) pss_nil)
      (pss_cons (ps_set (i := 5) scIfD.nd rfl (Or.inl rfl) (pe_cal cO hr (by decide) rfl (pa_cons (pe_cal cW hr (by decide) rfl (pa_cons (pe_op op_sub (pv 0) pe_int) (pa_cons (pv 1) (pa_cons (pe_op op_sub (pv 2) pe_int) (pa_cons (pv 3) pa_nil))))) pa_nil)))
      (pss_cons (ps_set (i := 6) scIfD.nd rfl (Or.inl rfl) (pe_cal cM hr (by decide) rfl (pa_cons (pv 4) (pa_cons (pv 5) (pa_cons (pe_cal cW hr (by decide) rfl (pa_cons (pe_op op_sub (pv 0) pe_int) (pa_cons (pv 1) (pa_cons (pv 2) (pa_cons (pv 3) pa_nil))))) pa_nil)))))
      (pss_cons (ps_if (pt_cmpR op_eq (pv 1) pe_int (nomark _)) (pss_one (ps_ret (pv 6))) pss_nil)
      (pss_cons (ps_set (i := 7) scIfD.nd rfl (Or.inl rfl) (pe_cal cM hr (by decide) rfl (pa_cons (pv 4) (pa_cons (pe_tup (pa_cons (pe_un un_neg (pv 3)) (pa_cons pe_int pa_nil))) (pa_cons (pe_cal cW hr (by decide) rfl (pa_cons (pe_op op_sub (pv 0) pe_int) (pa_cons (pe_op op_sub (pv 1) pe_int) (pa_cons (pv 2) (pa_cons (pv 3) pa_nil))))) pa_nil)))))
      (pss_one (ps_ret (pe_ifExp (pt_val (pe_cal cLs hr (by decide) rfl (pa_cons (pv 7) (pa_cons (pv 6) pa_nil)))) (pv 7) (pv 6)))))))), ?_⟩
    refine ⟨_, rfl, rfl, _, rfl, ite2 (fun c => ?_) (fun c => ?_)⟩
    · have c := int_eq_zero c
      rw [if_pos c] at k
      exact k t0 H (Same.refl H) (h00 H)
    have c := int_ne_zero c
    rw [if_neg c, ifdare_eq hb] at k
    have e1 : (n : Int) - 1 = ((n - 1 : Nat) : Int) := by omega
    have e3 : (k' : Int) - 1 = ((k' - 1 : Nat) : Int) := by omega
    refine ⟨_, rfl, _, _, rfl, rfl, _, rfl, _, rfl, _, _, rfl, rfl, _, rfl, n - 1, m, k' - 1, b, by rw [← e1, ← e3]; rfl, by omega, hm, hb, hb2, fun tw H1 s1 hw => ?_⟩
    refine ⟨tw, _, rfl, hw, fun to H2 s2 ho => ?_⟩
    refine ⟨_, rfl, _, rfl, _, rfl, _, _, rfl, rfl, _, rfl, _, rfl, _, rfl, n - 1, m, k', b, by rw [← e1]; rfl, by omega, hm, hb, hb2, fun t3 H3 s3 h3 => ?_⟩
    have sH3 : Same H H3 := (s1.trans s2).trans s3
    refine ⟨tc, to, t3, _, _, _, rfl, same_tup sH3 hc, same_tup s3 ho, h3, fr_cent hx, fr_w1 (by omega) hm hb hb2, fr_w (by omega) hm hb hb2, fun tp H4 s4 hp => ?_⟩
    have sH4 := sH3.trans s4
    refine ⟨_, rfl, rfl, _, rfl, ite2 (fun c1 => ?_) (fun c1 => ?_)⟩
    · have c1 := int_eq_zero c1
      rw [if_pos c1] at k
      exact ⟨_, rfl, k tp H4 sH4 hp⟩
    have c1 := int_ne_zero c1
    rw [if_neg c1] at k
    have e2 : (m : Int) - 1 = ((m - 1 : Nat) : Int) := by omega
    refine ⟨_, rfl, _, rfl, _, rfl, (by show 2 ≤ sizeLine; decide), fun ps hps => ?_⟩
    refine ⟨_, rfl, _, _, rfl, rfl, _, rfl, _, _, rfl, rfl, _, rfl, _, rfl, n - 1, m - 1, k', b, by rw [← e1, ← e2]; rfl, by omega, by omega, hb, hb2, fun t5 H5 s5 h5 => ?_⟩
    have s45 := (same_new (.tup [.int (-(b : Int)), .int 1]) hps).trans s5
    have hseen : SqT K H5 ps (vQ (-(b : Int), 1)) := same_tup s5 (SqT.of upd_same)
    refine ⟨tc, ps, t5, _, _, _, rfl, same_tup (sH4.trans s45) hc, hseen, h5, fr_cent hx, fr_seen hb2, fr_w (by omega) (by omega) hb hb2, fun tl H6 s6 hl => ?_⟩
    have hp6 := same_tup (s45.trans s6) hp
    refine ⟨_, rfl, _, rfl, tl, tp, _, _, rfl, hl, hp6, fr_mix3 (fr_cent hx) (fr_seen hb2) (fr_w (by omega) (by omega) hb hb2), fr_mix3 (fr_cent hx) (fr_w1 (by omega) hm hb hb2) (fr_w (by omega) hm hb hb2), _, rfl, ?_⟩
    refine ite2 (fun c2 => ?_) (fun c2 => ?_)
    · rw [if_pos c2] at k
      exact ⟨_, rfl, k tl H6 ((sH4.trans s45).trans s6) hl⟩
    · rw [if_neg c2] at k
      exact ⟨_, rfl, k tp H6 ((sH4.trans s45).trans s6) hp6⟩
end
end Wl

set_option Elab.async false
set_option maxRecDepth 100000
set_option maxHeartbeats 4000000
set_option exponentiation.threshold 4000
namespace Wl
open PySem PySem.Spec PyProof.Rows L2
section
variable {P : Program} {w : World} {K : PySem.W.Frag} {mg : Str → Option Value} {base : Heap}
/-! ### what is known already -/
def SameBut (d : Addr) (H H' : Hp) : Prop := ∀ b o, H b = some o → b ≠ d → H' b = some o
theorem SameBut.refl (d : Addr) (H : Hp) : SameBut d H H := fun _ _ e _ => e
theorem SameBut.trans {d : Addr} {H H1 H2 : Hp} (a : SameBut d H H1) (b : SameBut d H1 H2) : SameBut d H H2 := fun c o e h => b c o (a c o e h) h
theorem but_same {d : Addr} {H H' : Hp} (s : Same H H') : SameBut d H H' := fun b o e _ => s b o e
theorem but_put {d : Addr} {H : Hp} (o : HO) : SameBut d H (upd H d o) := fun b o' e h => by rw [upd_ne h]; exact e
theorem but_tup {d : Addr} {H H' : Hp} {kvs : List (List Key × V)} {a : Addr} {xs : List V} (s : SameBut d H H') (hd : H d = some (.dT kvs)) (h : SqT K H a xs) : SqT K H' a xs := by
  rcases h with (h | ⟨o, h⟩) | h
  · exact .inl (.inl (s _ _ h (fun e => by rw [e, hd] at h; cases h)))
  · exact .inl (.inr ⟨o, s _ _ h (fun e => by rw [e, hd] at h; cases h)⟩)
  · exact .inr h
def keyQ (n m k : Nat) : List Key := [Sum.inl (n : Int), Sum.inl (m : Int), Sum.inl (k : Int)]
theorem keyQ_inj {n m k n' m' k' : Nat} (h : keyQ n m k = keyQ n' m' k') : n = n' ∧ m = m' ∧ k = k' := by
  unfold keyQ at h
  injection h with h1 h
  injection h with h2 h
  injection h with h3 h
  injection h1 with h1
  injection h2 with h2
  injection h3 with h3
  omega
def Memo (K : PySem.W.Frag) (H : Hp) (b : Nat) (kvs : List (List Key × V)) : Prop :=
  ∀ (n m k : Nat) (v : V), valV kvs (keyQ n m k) = some v → ∃ p : Addr, v = .ref p ∧ SqT K H p (vQ (Kp317.caughtUp b n m k))
theorem Memo.but {d : Addr} {H H' : Hp} {b : Nat} {kvs kvs0 : List (List Key × V)} (M : Memo K H b kvs) (s : SameBut d H H') (hd : H d = some (.dT kvs0)) : Memo K H' b kvs := by
  intro n m k v e
  obtain ⟨p, ep, h⟩ := M n m k v e
  exact ⟨p, ep, but_tup s hd h⟩
theorem Memo.put {H : Hp} {b : Nat} {kvs : List (List Key × V)} (M : Memo K H b kvs) {n m k : Nat} {p : Addr} (h : SqT K H p (vQ (Kp317.caughtUp b n m k))) : Memo K H b (putK kvs (keyQ n m k) (.ref p)) := by
  intro n' m' k' v e
  rw [valV_put] at e
  by_cases c : keyQ n' m' k' = keyQ n m k
  · rw [if_pos c] at e
    injection e with e
    obtain ⟨e1, e2, e3⟩ := keyQ_inj c
    subst e1 e2 e3
    exact ⟨p, e.symm, h⟩
  · rw [if_neg c] at e
    exact M n' m' k' v e
theorem putK_le {kvs : List (List Key × V)} (k : List Key) (v : V) : (putK kvs k v).length ≤ kvs.length + 1 := by
  unfold putK
  split
  · rw [List.length_map]; omega
  · rw [List.length_append]; exact Nat.le_refl _
def cnt : Nat → Nat
  | 0 => 0
  | n + 1 => 3 * cnt n + 1
/-! ### caught_from -/
def PostC (K : PySem.W.Frag) (N : Nat) (d : Addr) (b n m k : Nat) (kvs : List (List Key × V)) (H : Hp) (Q : VK) : Prop :=
  ∀ (p : Addr) (H' : Hp) (kvs' : List (List Key × V)), SameBut d H H' → H' d = some (.dT kvs') → Memo K H' b kvs' → kvs'.length ≤ kvs.length + cnt N → SqT K H' p (vQ (Kp317.caughtUp b n m k)) → Q (.ref p) H'
def spCF (K : PySem.W.Frag) (N : Nat) : Sp := fun vs H Q _ => ∃ (d : Addr) (n m k b : Nat) (kvs : List (List Key × V)), vs = [.ref d, .int n, .int m, .int k, .int b] ∧ n < N ∧ N ≤ 9 ∧ m ≤ 8 ∧ k ≤ 8 ∧ 0 < b ∧ b ≤ 9 ∧ H d = some (.dT kvs) ∧ Memo K H b kvs ∧ kvs.length + cnt N ≤ 10000 ∧ PostC K N d b n m k kvs H Q
theorem scCF : FnScope ["known", "days", "looks", "misdeeds", "fine", "left", "look", "dared", "looked_waited", "passed_waited", "waited"] ["known", "days", "looks", "misdeeds", "fine"] (defScope sCF) := ⟨rfl, rfl, rfl, by decide +kernel, rfl, by decide +kernel, by decide +kernel⟩
theorem ok_cf0 (D : Wdef K mg "caught_from" sCF ["known", "days", "looks", "misdeeds", "fine"]) : Wcal P w K mg base "caught_from" 4 (spCF K 0) := by
  refine D.cal fun f fd F => ⟨fun vs H Q E h => ?_, fun A outer s H args us vs Q E _ _ _ _ h => ?_⟩
  · obtain ⟨d, n, m, k, b, kvs, _, hn, _⟩ := h
    omega
  · obtain ⟨d, n, m, k, b, kvs, _, hn, _⟩ := h
    omega
theorem ok_cf1 {N : Nat} (D : Wdef K mg "caught_from" sCF ["known", "days", "looks", "misdeeds", "fine"]) (cM : Wcal P w K mg base "mixed" 3 (spMix K)) (cL : Wcal P w K mg base "look_chance" 3 (spLook K)) (cD : Wcal P w K mg base "dare_chance" 3 (spDare K))
    (cN : Wtup K mg "NOTHING" (vQ (0, 1))) (cC : Wtup K mg "CERTAIN" (vQ (1, 1))) (cF : Wcal P w K mg base "caught_from" (N + 4) (spCF K N)) : Wcal P w K mg base "caught_from" (N + 5) (spCF K (N + 1)) := by
  obtain ⟨t0, m0, h00⟩ := cN
  obtain ⟨t1, m1, h11⟩ := cC
  refine D.cal fun f fd F => ?_
  refine F.ok scCF (fun vs H Q E h => ?_) (fun cdv A outer s H vs Q E hr h => ?_)
  · obtain ⟨d, n, m, k, b, kvs, rfl, _⟩ := h
    rfl
  · obtain ⟨d, n, m, k', b, kvs, rfl, hn, hN, hm, hk, hb, hb2, hd, M, hl, k⟩ := h
    refine ⟨_, pss_cons (ps_if (PW.pt (pw_or (pt_cmpR op_eq (pv 1) pe_int (nomark _)) (pw_or (pt_cmpR op_eq (pv 2) pe_int (nomark _)) (pw_or1 (pt_cmpR op_eq (pv 3) pe_int (nomark _)))))) (pss_one (ps_ret (pe_glob (v := .ref t0) rfl m0 rfl))) pss_nil)
      (pss_cons (ps_set (i := 5) scCF.nd rfl (Or.inl rfl) (pe_tup (pa_cons (pv 1) (pa_cons (pv 2) (pa_cons (pv 3) pa_nil)))))
      (pss_cons (ps_if (pt_cmp (pc_dnotin (hu_of hr) (pv 5) (pv 0)))
        (pss_cons (ps_set (i := 6) scCF.nd rfl (Or.inl rfl) (pe_cal cL hr (by omega) rfl (pa_cons (pv 1) (pa_cons (pv 2) (pa_cons (pv 4) pa_nil)))))
        (pss_cons (ps_set (i := 7) scCF.nd rfl (Or.inl rfl) (pe_cal cM hr (by omega) rfl (pa_cons (pv 6) (pa_cons (pe_glob (v := .ref t1) rfl m1 rfl) (pa_cons (pe_cal cF hr (by omega) rfl (pa_cons (pv 0) (pa_cons (pe_op op_sub (pv 1) pe_int) (pa_cons (pv 2) (pa_cons (pe_op op_sub (pv 3) pe_int) (pa_cons (pv 4) pa_nil)))))) pa_nil)))))
        (pss_cons (ps_set (i := 8) scCF.nd rfl (Or.inl rfl) (pe_cal cF hr (by omega) rfl (pa_cons (pv 0) (pa_cons (pe_op op_sub (pv 1) pe_int) (pa_cons (pe_op op_sub (pv 2) pe_int) (pa_cons (pv 3) (pa_cons (pv 4) pa_nil)))))))
        (pss_cons (ps_set (i := 9) scCF.nd rfl (Or.inl rfl) (pe_cal cF hr (by omega) rfl (pa_cons (pv 0) (pa_cons (pe_op op_sub (pv 1) pe_int) (pa_cons (pv 2) (pa_cons (pv 3) (pa_cons (pv 4) pa_nil)))))))
        (pss_cons (ps_set (i := 10) scCF.nd rfl (Or.inl rfl) (pe_cal cM hr (by omega) rfl (pa_cons (pv 6) (pa_cons (pv 8) (pa_cons (pv 9) pa_nil)))))
        (pss_one (ps_dput (hu_of hr) (pv 0) (pv 5) (pe_cal cM hr (by omega) rfl (pa_cons (pe_cal cD hr (by omega) rfl (pa_cons (pv 1) (pa_cons (pv 2) (pa_cons (pv 3) (pa_cons (pv 4) pa_nil))))) (pa_cons (pv 7) (pa_cons (pv 10) pa_nil)))) rfl))))))) pss_nil)
      (pss_one (ps_ret (pe_dget (hu_of hr) (pv 0) (pv 5) (fun _ _ => rfl)))))), ?_⟩
    have zero : (n = 0 ∨ m = 0 ∨ k' = 0) → Q (.ref t0) H := fun c =>
      k t0 H kvs (SameBut.refl d H) hd M (by omega) (by rw [caught_none hb c]; exact h00 H)
    refine ⟨_, rfl, rfl, _, rfl, ite2 (fun c1 => ?_) (fun c1 => ?_)⟩
    · exact iteT (zero (.inl (int_eq_zero c1)))
    refine ⟨_, rfl, rfl, _, rfl, ite2 (fun c2 => ?_) (fun c2 => ?_)⟩
    · exact iteT (zero (.inr (.inl (int_eq_zero c2))))
    refine ⟨_, rfl, rfl, _, rfl, ite2 (fun c3 => ?_) (fun c3 => ?_)⟩
    · exact zero (.inr (.inr (int_eq_zero c3)))
    have c1 := int_ne_zero c1
    have c2 := int_ne_zero c2
    have c3 := int_ne_zero c3
    obtain ⟨n, rfl⟩ : ∃ n', n = n' + 1 := ⟨n - 1, by omega⟩
    have e1 : ((n + 1 : Nat) : Int) - 1 = (n : Int) := by omega
    have e2 : (m : Int) - 1 = ((m - 1 : Nat) : Int) := by omega
    have e3 : (k' : Int) - 1 = ((k' - 1 : Nat) : Int) := by omega
    have hcnt : cnt (N + 1) = 3 * cnt N + 1 := rfl
    -- left = (days, looks, misdeeds)
    refine ⟨_, rfl, _, rfl, _, rfl, (by show 3 ≤ sizeLine; decide), fun tl htl => ?_⟩
    have s1 := same_new (.tup [.int ((n + 1 : Nat) : Int), .int (m : Int), .int (k' : Int)]) htl
    have hd1 := s1 _ _ hd
    have hl1 : upd H tl (.tup [.int ((n + 1 : Nat) : Int), .int (m : Int), .int (k' : Int)]) tl = some (.tup ((keyQ (n + 1) m k').map kV)) := upd_same
    have M1 : Memo K (upd H tl (.tup [.int ((n + 1 : Nat) : Int), .int (m : Int), .int (k' : Int)])) b kvs := M.but (but_same s1) hd
    generalize upd H tl (.tup [.int ((n + 1 : Nat) : Int), .int (m : Int), .int (k' : Int)]) = H1 at *
    refine ⟨_, rfl, _, rfl, d, _, rfl, DGet.t (k := keyQ (n + 1) m k') hd1 hl1, _, rfl, ?_⟩
    cases ev : valV kvs (keyQ (n + 1) m k') with
    | some v =>
      obtain ⟨p, rfl, hp⟩ := M1 _ _ _ _ ev
      refine iteF ⟨_, rfl, _, rfl, d, .ref p, rfl, ?_, k p H1 kvs (but_same s1) hd1 M1 (by omega) hp⟩
      rw [← ev]
      exact DGet.t (k := keyQ (n + 1) m k') hd1 hl1
    | none =>
      refine iteT ⟨_, rfl, _, rfl, _, rfl, n + 1, m, b, rfl, by omega, by omega, hm, hb, by omega, fun tk H2 s2 hlk => ?_⟩
      have hd2 := s2 _ _ hd1
      have M2 := M1.but (d := d) (but_same s2) hd1
      have hl2 := s2 _ _ hl1
      have tld : tl ≠ d := fun e => by rw [e, hd1] at hl1; cases hl1
      -- dared
      refine ⟨_, rfl, _, rfl, _, rfl, _, _, rfl, rfl, _, rfl, _, rfl, _, _, rfl, rfl, _, rfl, d, n, m, k' - 1, b, kvs, by rw [← e1, ← e3]; rfl, by omega, by omega, hm, by omega, hb, hb2, hd2, M2, by omega, fun p3 H3 kv3 s3 hd3 M3 hl3 hp3 => ?_⟩
      have hlk3 := but_tup s3 hd2 hlk
      refine ⟨tk, t1, p3, _, _, _, rfl, hlk3, h11 H3, hp3, (fr_look (by omega) hm hb (by omega)).mono (by decide), (fr_small (by decide)).2, (fr_caught (by omega) hm (by omega) hb hb2).mono (by decide), fun p4 H4 s4 hp4 => ?_⟩
      -- looked_waited
      have hd4 := s4 _ _ hd3
      have M4 := M3.but (d := d) (but_same s4) hd3
      refine ⟨_, rfl, _, rfl, _, _, rfl, rfl, _, rfl, _, _, rfl, rfl, _, rfl, _, rfl, d, n, m - 1, k', b, kv3, by rw [← e1, ← e2]; rfl, by omega, by omega, by omega, hk, hb, hb2, hd4, M4, by omega, fun p5 H5 kv5 s5 hd5 M5 hl5 hp5 => ?_⟩
      -- passed_waited
      refine ⟨_, rfl, _, rfl, _, _, rfl, rfl, _, rfl, _, rfl, _, rfl, d, n, m, k', b, kv5, by rw [← e1]; rfl, by omega, by omega, hm, hk, hb, hb2, hd5, M5, by omega, fun p6 H6 kv6 s6 hd6 M6 hl6 hp6 => ?_⟩
      have b36 : SameBut d H3 H6 := ((but_same s4).trans s5).trans s6
      have hlk6 := but_tup b36 hd3 hlk3
      have hp46 := but_tup (s5.trans s6) hd4 hp4
      have hp56 := but_tup s6 hd5 hp5
      -- waited
      refine ⟨_, rfl, _, rfl, _, rfl, tk, p5, p6, _, _, _, rfl, hlk6, hp56, hp6, (fr_look (by omega) hm hb (by omega)).mono (by decide), (fr_caught (by omega) (by omega) hk hb hb2).mono (by decide), (fr_caught (by omega) hm hk hb hb2).mono (by decide), fun p7 H7 s7 hp7 => ?_⟩
      -- known[left]
      refine ⟨_, rfl, _, rfl, _, rfl, _, rfl, n + 1, m, k', b, rfl, by omega, by omega, hm, hb, by omega, fun p8 H8 s8 hp8 => ?_⟩
      refine ⟨_, rfl, _, rfl, p8, p4, p7, _, _, _, rfl, hp8, same_tup (s7.trans s8) hp46, same_tup s8 hp7, (fr_dare (by omega) hm hb (by omega)).mono (by decide), (fr_mix (fr_look (by omega) hm hb (by omega)) (fr_small (s := 1) (by decide)).2 (fr_caught (by omega) hm (by omega) hb hb2)).mono (by decide),
        (fr_mix (fr_look (by omega) hm hb (by omega)) (fr_caught (by omega) (by omega) hk hb hb2) (fr_caught (by omega) hm hk hb hb2)).mono (by decide), fun p9 H9 s9 hp9 => ?_⟩
      rw [← caught_mix hb c2 c3] at hp9
      have s69 : Same H6 H9 := (s7.trans s8).trans s9
      have hd9 := s69 _ _ hd6
      have b19 : SameBut d H1 H9 := (((but_same s2).trans s3).trans b36).trans (but_same s69)
      have hl9 : H9 tl = some (.tup ((keyQ (n + 1) m k').map kV)) := b19 _ _ hl1 tld
      have M9 := M6.but (d := d) (but_same s69) hd6
      have sl : 10000 < sizeLine := by decide
      refine ⟨_, rfl, _, rfl, d, _, rfl, DPut.t (k := keyQ (n + 1) m k') hd9 hl9 (by omega), ?_⟩
      have bput : SameBut d H9 (upd H9 d (.dT (putK kv6 (keyQ (n + 1) m k') (.ref p9)))) := but_put _
      have hp10 := but_tup bput hd9 hp9
      have M10 := Memo.put (M9.but bput hd9) hp10
      have hl10 := bput _ _ hl9 tld
      have pl := putK_le (kvs := kv6) (keyQ (n + 1) m k') (.ref p9)
      refine ⟨_, rfl, _, rfl, d, .ref p9, rfl, ?_, k p9 _ _ (((but_same s1).trans b19).trans bput) upd_same M10 (by omega) hp10⟩
      have g := DGet.t (k := keyQ (n + 1) m k') (kvs := putK kv6 (keyQ (n + 1) m k') (.ref p9)) (H := upd H9 d (.dT (putK kv6 (keyQ (n + 1) m k') (.ref p9)))) (a := d) (b := tl) upd_same hl10
      rw [valV_put, if_pos rfl] at g
      exact g
end
end Wl

set_option Elab.async false
set_option maxRecDepth 100000
set_option maxHeartbeats 4000000
set_option exponentiation.threshold 4000
namespace Wl
open PySem PySem.Spec PyProof.Rows L2
section
variable {P : Program} {w : World} {K : PySem.W.Frag} {mg : Str → Option Value} {base : Heap}
theorem ok_cf (D : Wdef K mg "caught_from" sCF ["known", "days", "looks", "misdeeds", "fine"]) (cM : Wcal P w K mg base "mixed" 3 (spMix K)) (cL : Wcal P w K mg base "look_chance" 3 (spLook K)) (cD : Wcal P w K mg base "dare_chance" 3 (spDare K))
    (cN : Wtup K mg "NOTHING" (vQ (0, 1))) (cC : Wtup K mg "CERTAIN" (vQ (1, 1))) : ∀ N : Nat, Wcal P w K mg base "caught_from" (N + 4) (spCF K N)
  | 0 => ok_cf0 D
  | N + 1 => ok_cf1 D cM cL cD cN cC (ok_cf D cM cL cD cN cC N)
/-! ### caught_chance, done_mean -/
def spCC (K : PySem.W.Frag) : Sp := fun vs H Q _ => ∃ n m k b : Nat, vs = [.int n, .int m, .int k, .int b] ∧ n ≤ 8 ∧ m ≤ 8 ∧ k ≤ 8 ∧ 0 < b ∧ b ≤ 9 ∧ givesQ K H Q (Kp317.caughtUp b n m k)
theorem scCC : FnScope ["days", "looks", "misdeeds", "fine"] ["days", "looks", "misdeeds", "fine"] (defScope sCC) := ⟨rfl, rfl, rfl, by decide +kernel, rfl, by decide +kernel, by decide +kernel⟩
theorem ok_cc (D : Wdef K mg "caught_chance" sCC ["days", "looks", "misdeeds", "fine"]) (cF : Wcal P w K mg base "caught_from" 13 (spCF K 9)) : Wcal P w K mg base "caught_chance" 14 (spCC K) := by
  refine D.cal fun f fd F => ?_
  refine F.ok scCC (fun vs H Q E h => ?_) (fun cdv A outer s H vs Q E hr h => ?_)
  · obtain ⟨n, m, k, b, rfl, _⟩ := h
    rfl
  · obtain ⟨n, m, k', b, rfl, hn, hm, hk, hb, hb2, k⟩ := h
    refine ⟨_, pss_one (ps_ret (pe_cal cF hr (by decide) rfl (pa_cons pe_dnewT (pa_cons (pv 0) (pa_cons (pv 1) (pa_cons (pv 2) (pa_cons (pv 3) pa_nil))))))), ?_⟩
    intro d hd
    refine ⟨_, rfl, _, rfl, _, rfl, _, rfl, d, n, m, k', b, [], rfl, by omega, by decide, hm, hk, hb, hb2, upd_same, fun n m k v e => (by cases e), (by decide), fun p H' kvs' sb _ _ _ hp => ?_⟩
    refine k p H' (fun b o e => ?_) hp
    exact sb b o (by rw [upd_ne (ne_of_none e hd)]; exact e) (ne_of_none e hd)
def spDone (K : PySem.W.Frag) : Sp := fun vs H Q _ => ∃ n m k b : Nat, vs = [.int n, .int m, .int k, .int b] ∧ n ≤ 8 ∧ m ≤ 8 ∧ k ≤ 8 ∧ 0 < b ∧ b ≤ 9 ∧ givesQ K H Q (Kp317.doneUp b n m k)
theorem scDone : FnScope ["days", "looks", "misdeeds", "fine", "gained", "caught"] ["days", "looks", "misdeeds", "fine"] (defScope sDone) := ⟨rfl, rfl, rfl, by decide +kernel, rfl, by decide +kernel, by decide +kernel⟩
theorem ok_done (D : Wdef K mg "done_mean" sDone ["days", "looks", "misdeeds", "fine"]) (cC : Wcal P w K mg base "caught_chance" 14 (spCC K)) (cW : Wcal P w K mg base "worth" 3 (spWorth K)) (cL : Wcal P w K mg base "lowest" 2 (spLow K)) : Wcal P w K mg base "done_mean" 15 (spDone K) := by
  refine D.cal fun f fd F => ?_
  refine F.ok scDone (fun vs H Q E h => ?_) (fun cdv A outer s H vs Q E hr h => ?_)
  · obtain ⟨n, m, k, b, rfl, _⟩ := h
    rfl
  · obtain ⟨n, m, k', b, rfl, hn, hm, hk, hb, hb2, k⟩ := h
    refine ⟨_, pss_cons (ps_set (i := 4) scDone.nd rfl (Or.inl rfl) (pe_cal cW hr (by decide) rfl (pa_cons (pv 0) (pa_cons (pv 1) (pa_cons (pv 2) (pa_cons (pv 3) pa_nil))))))
      (pss_cons (ps_set (i := 5) scDone.nd rfl (Or.inl rfl) (pe_cal cC hr (by decide) rfl (pa_cons (pv 0) (pa_cons (pv 1) (pa_cons (pv 2) (pa_cons (pv 3) pa_nil))))))
      (pss_one (ps_ret (pe_cal cL hr (by decide) rfl (pa_cons (pe_op op_add (pe_op op_mulW (pe_ix ix_tup (pv 4) pe_int (fun _ _ => rfl)) (pe_ix ix_tup (pv 5) pe_int (fun _ _ => rfl))) (pe_op op_mulW (pe_op op_mulW (pv 3) (pe_ix ix_tup (pv 5) pe_int (fun _ _ => rfl))) (pe_ix ix_tup (pv 4) pe_int (fun _ _ => rfl))))
        (pa_cons (pe_op op_mulW (pe_ix ix_tup (pv 4) pe_int (fun _ _ => rfl)) (pe_ix ix_tup (pv 5) pe_int (fun _ _ => rfl))) pa_nil)))))), ?_⟩
    refine ⟨_, rfl, _, rfl, _, rfl, _, rfl, n, m, k', b, rfl, hn, hm, hb, by omega, fun tg H1 s1 hg => ?_⟩
    refine ⟨_, rfl, _, rfl, _, rfl, _, rfl, n, m, k', b, rfl, hn, hm, hk, hb, hb2, fun tc H2 s2 hc => ?_⟩
    have hg2 := same_tup s2 hg
    have wg : Fr 72 (Kp317.worth n m k' b) := fr_worth hn hm hb (by omega)
    have wc := fr_caught hn hm hk hb hb2
    have hb4 : ((b : Nat) : Int).natAbs < 2 ^ 4 := by omega
    refine ⟨_, rfl, tg, _, _, _, rfl, rfl, hg2, rfl, _, rfl, tc, _, _, _, rfl, rfl, hc, rfl, _, _, rfl, rfl, wide_mul wg.2.2 (nat_pow wc.2.1) (by decide) (by decide) (by decide), ?_⟩
    refine ⟨_, rfl, _, rfl, tc, _, _, _, rfl, rfl, hc, rfl, _, _, rfl, rfl, wide_mul hb4 wc.2.2 (by decide) (by decide) (by decide), _, rfl, tg, _, _, _, rfl, rfl, hg2, rfl, _, _, rfl, rfl, wide_mul (mul_pow hb4 wc.2.2) (nat_pow wg.2.1) (by decide) (by decide) (by decide), _, _, rfl, rfl, ?_⟩
    refine ⟨_, rfl, tg, _, _, _, rfl, rfl, hg2, rfl, _, rfl, tc, _, _, _, rfl, rfl, hc, rfl, _, _, rfl, rfl, wide_mul (nat_pow wg.2.1) (nat_pow wc.2.1) (by decide) (by decide) (by decide), ?_⟩
    rw [done_eq hb] at k
    refine ⟨_, (Kp317.worth n m k' b).2 * (Kp317.caughtUp b n m k').2, by rw [Int.natCast_mul]; rfl, Nat.mul_pos wg.1 wc.1, ?_, k.same (s1.trans s2)⟩
    have h1 : (Kp317.worth n m k' b).2 * (Kp317.caughtUp b n m k').2 < 2 ^ 72 * 2 ^ 63 := Nat.mul_lt_mul'' wg.2.1 wc.2.1
    rw [← Nat.pow_add] at h1
    exact pow_mono h1 (by decide)
/-! ### spare_chance -/
def spSpare (K : PySem.W.Frag) : Sp := fun vs H Q _ => ∃ n m b j : Nat, vs = [.int n, .int m, .int b, .int j] ∧ n ≤ 8 ∧ m ≤ 8 ∧ 0 < b ∧ b ≤ 9 ∧ j ≤ m ∧ givesQ K H Q (Kp317.leftUp b n m j)
theorem scSpare : FnScope ["days", "looks", "fine", "spare", "heavy", "look"] ["days", "looks", "fine", "spare"] (defScope sSpare) := ⟨rfl, rfl, rfl, by decide +kernel, rfl, by decide +kernel, by decide +kernel⟩
theorem ok_spare (D : Wdef K mg "spare_chance" sSpare ["days", "looks", "fine", "spare"]) (cWy : Wcal P w K mg base "ways" 1 spWays) (cW : Wcal P w K mg base "weight" 2 spWeight) (cL : Wcal P w K mg base "lowest" 2 (spLow K)) (mr : mg "range" = none) : Wcal P w K mg base "spare_chance" 3 (spSpare K) := by
  refine D.cal fun f fd F => ?_
  refine F.ok scSpare (fun vs H Q E h => ?_) (fun cdv A outer s H vs Q E hr h => ?_)
  · obtain ⟨n, m, k, b, rfl, _⟩ := h
    rfl
  · obtain ⟨n, m, b, j, rfl, hn, hm, hb, hb2, hj, k⟩ := h
    refine ⟨_, pss_cons (ps_set (i := 4) scSpare.nd rfl (Or.inl rfl) (pe_cal cWy hr (by decide) rfl (pa_cons (pv 0) (pa_cons (pe_op op_sub (pv 1) (pv 3)) pa_nil))))
      (pss_cons (ps_for PassesOwn.never rfl (pi_range1 rfl mr (pa_cons (pv 3) pa_nil)) (pg_name (i := 5) scSpare.nd rfl (Or.inl rfl))
        (pss_one (ps_aug (i := 4) scSpare.nd rfl (Or.inl rfl) (pv 2) iop_mul)))
      (pss_one (ps_ret (pe_cal cL hr (by decide) rfl (pa_cons (pv 4) (pa_cons (pe_cal cW hr (by decide) rfl (pa_cons (pv 0) (pa_cons (pv 1) (pa_cons (pv 2) pa_nil)))) pa_nil)))))), ?_⟩
    have e1 : (m : Int) - j = ((m - j : Nat) : Int) := by omega
    refine ⟨_, rfl, _, rfl, _, rfl, _, _, rfl, rfl, n, m - j, by rw [← e1]; rfl, by omega, by omega, ?_⟩
    refine ⟨_, rfl, (j : Int), rfl, by omega, by omega, for_range (n := j) (fun i σ H' => H' = H ∧ ∃ v : Option V, σ = [some (.int n), some (.int m), some (.int b), some (.int j), some (.int ((Kp317.choose n (m - j) * b ^ i : Nat) : Int)), v]) ⟨rfl, none, by rw [Nat.pow_zero, Nat.mul_one]; rfl⟩ ?_ ?_⟩
    · rintro i σ H' hi ⟨rfl, v, rfl⟩
      refine ⟨_, rfl, _, rfl, _, _, rfl, rfl, .inr ⟨by omega, by omega⟩, rfl, some (.int (0 + (i : Int))), ?_⟩
      rw [Nat.pow_succ, ← Nat.mul_assoc, Int.natCast_mul (Kp317.choose n (m - j) * b ^ i) b]
      rfl
    · rintro σ H' ⟨rfl, v, rfl⟩
      rw [left_eq hb hj] at k
      exact ⟨_, rfl, _, rfl, _, rfl, _, rfl, n, m, b, rfl, by omega, by omega, by omega, _, Kp317.heavy n m b, rfl, heavy_pos n m hb, pow_mono (heavy_lt8 hn hm (by omega)) (by decide), k⟩
/-! ### looks_for, fine_for -/
theorem lf_val {p : Nat → Bool} {n i : Nat} (hi : i ≤ n) (h : ∀ j, j < i → p j = false) (hp : i = n ∨ p i = true) : ((List.range (n + 1)).find? p).getD n = i := by
  cases e : (List.range (n + 1)).find? p with
  | some j =>
    obtain ⟨a1, a2, a3⟩ := List.find?_range_eq_some.mp e
    have a2 := List.mem_range.mp a2
    show j = i
    by_cases c1 : j < i
    · rw [h j c1] at a1; cases a1
    · by_cases c2 : i < j
      · have := a3 i c2
        rcases hp with hp | hp
        · omega
        · rw [hp] at this; cases this
      · omega
  | none =>
    have a := List.find?_range_eq_none.mp e
    rcases hp with hp | hp
    · exact hp.symm
    · have := a i (by omega)
      rw [hp] at this; cases this
def lfV (n k b q : Nat) : Nat := ((List.range (n + 1)).find? fun m => Kp317.less (Kp317.worth n m k b) (1, q)).getD n
theorem fr_q {q : Nat} (h0 : 0 < q) (h : q ≤ 1000) : Fr 3000 (1, q) := Fr.mono (a := 10) ⟨h0, by show q < 2 ^ 10; omega, by show (1 : Int).natAbs < 2 ^ 10; decide⟩ (by decide)
theorem fr_w3 {n m k b : Nat} (hn : n ≤ 8) (hm : m ≤ 8) (hb : 0 < b) (hb2 : b ≤ 99) : Fr 3000 (Kp317.worth n m k b) := (fr_worth hn hm hb hb2).mono (by decide)
def spLF (K : PySem.W.Frag) : Sp := fun vs H Q _ => ∃ (n k b q : Nat) (t : Addr), vs = [.int n, .int k, .int b, .ref t] ∧ SqT K H t (vQ (1, q)) ∧ n ≤ 8 ∧ 0 < b ∧ b ≤ 99 ∧ 0 < q ∧ q ≤ 1000 ∧ ∀ H' : Hp, Same H H' → Q (.int (lfV n k b q : Nat)) H'
theorem scLF : FnScope ["days", "misdeeds", "fine", "bound", "looks"] ["days", "misdeeds", "fine", "bound"] (defScope sLF) := ⟨rfl, rfl, rfl, by decide +kernel, rfl, by decide +kernel, by decide +kernel⟩
theorem ok_lf (D : Wdef K mg "looks_for" sLF ["days", "misdeeds", "fine", "bound"]) (cLs : Wcal P w K mg base "less" 1 (spLess K)) (cW : Wcal P w K mg base "worth" 3 (spWorth K)) : Wcal P w K mg base "looks_for" 4 (spLF K) := by
  refine D.cal fun f fd F => ?_
  refine F.ok scLF (fun vs H Q E h => ?_) (fun cdv A outer s H vs Q E hr h => ?_)
  · obtain ⟨n, k', b, q, t, rfl, _⟩ := h
    rfl
  · obtain ⟨n, k', b, q, t, rfl, ht, hn, hb, hb2, hq, hq2, k⟩ := h
    refine ⟨_, pss_cons (ps_set (i := 4) scLF.nd rfl (Or.inl rfl) pe_int)
      (pss_cons (ps_while PassesOwn.never (PW.pt (pw_and (pt_cmpR op_lt (pv 4) (pv 0) (nomark _)) (pw_and1 (pt_not (pt_val (pe_cal cLs hr (by decide) rfl (pa_cons (pe_cal cW hr (by decide) rfl (pa_cons (pv 0) (pa_cons (pv 4) (pa_cons (pv 1) (pa_cons (pv 2) pa_nil))))) (pa_cons (pv 3) pa_nil))))))))
        (pss_one (ps_aug (i := 4) scLF.nd rfl (Or.inl rfl) pe_int ip_add)))
      (pss_one (ps_ret (pv 4)))), ?_⟩
    refine while_by (fun σ H' => Same H H' ∧ ∃ i : Nat, σ = [some (.int n), some (.int k'), some (.int b), some (.ref t), some (.int (i : Nat))] ∧ i ≤ n ∧ ∀ j, j < i → Kp317.less (Kp317.worth n j k' b) (1, q) = false) (fun σ _ => n - slotN σ 4)
      ⟨Same.refl H, 0, rfl, by omega, fun j hj => by omega⟩ ?_ ?_
    · rintro σ H1 ⟨s1, i, rfl, hi, hj⟩
      refine ⟨_, rfl, _, rfl, _, _, rfl, rfl, _, rfl, ite2 (fun c => ?_) (fun c => ?_)⟩
      · have c : i < n := by have := of_decide_eq_true c; omega
        refine ⟨_, rfl, _, rfl, _, rfl, _, rfl, n, i, k', b, rfl, hn, by omega, hb, hb2, fun t2 H2 s2 h2 => ?_⟩
        refine ⟨_, rfl, t2, t, _, (1, q), rfl, h2, same_tup (s1.trans s2) ht, fr_w3 hn (by omega) hb hb2, fr_q hq hq2, _, rfl, ?_⟩
        cases e : Kp317.less (Kp317.worth n i k' b) (1, q) with
        | true =>
          refine iteF ⟨_, rfl, ?_⟩
          have := k H2 (s1.trans s2)
          unfold lfV at this
          rw [lf_val hi hj (.inr e)] at this
          exact this
        | false =>
          refine iteT ⟨_, rfl, _, _, rfl, rfl, ⟨s1.trans s2, i + 1, rfl, by omega, fun j hj2 => ?_⟩, ?_⟩
          · by_cases c2 : j = i
            · rw [c2]; exact e
            · exact hj j (by omega)
          · show n - ((i : Int) + 1).toNat < n - (i : Int).toNat
            omega
      · have c : i = n := by
          have : ¬ (i : Int) < n := fun q => c (decide_eq_true q)
          omega
        refine iteF ⟨_, rfl, ?_⟩
        have := k H1 s1
        unfold lfV at this
        rw [lf_val hi hj (.inl c)] at this
        exact this
    · intro σ H Q Q' hq h
      obtain ⟨v, e, v1, e1, i, j, ei, ej, z, ez, q⟩ := h
      refine ⟨v, e, v1, e1, i, j, ei, ej, z, ez, ?_⟩
      cases z with
      | false => exact iteF (hq _ _ q)
      | true =>
        obtain ⟨v2, e2, v3, e3, v4, e4, v5, e5, n', m', k2, b', ev, h1, h2, h3, h4, g⟩ := q
        refine iteT ⟨v2, e2, v3, e3, v4, e4, v5, e5, n', m', k2, b', ev, h1, h2, h3, h4, fun p H' s h => ?_⟩
        obtain ⟨v6, e6, t, u, x, y, ev2, a1, a2, a3, a4, c, ec, q⟩ := g p H' s h
        exact ⟨v6, e6, t, u, x, y, ev2, a1, a2, a3, a4, c, ec, hq _ _ q⟩
def ffV (n m k q : Nat) : Option Nat := ((List.range 100).drop 1).find? fun b => Kp317.less (Kp317.worth n m k b) (1, q)
theorem ff_list : (List.range 100).drop 1 = (List.range 99).map (· + 1) := by decide
theorem ff_some {p : Nat → Bool} {i : Nat} (hi : i < 99) (h : ∀ j, j < i → p (j + 1) = false) (hp : p (i + 1) = true) : ((List.range 100).drop 1).find? p = some (i + 1) := by
  rw [ff_list, List.find?_map]
  have : (List.range 99).find? (p ∘ (· + 1)) = some i := List.find?_range_eq_some.mpr ⟨hp, List.mem_range.mpr hi, fun j hj => by show (!p (j + 1)) = true; rw [h j hj]; rfl⟩
  rw [this]; rfl
theorem ff_none {p : Nat → Bool} (h : ∀ j, j < 99 → p (j + 1) = false) : ((List.range 100).drop 1).find? p = none := by
  rw [ff_list, List.find?_map]
  have : (List.range 99).find? (p ∘ (· + 1)) = none := List.find?_range_eq_none.mpr fun j hj => by show (!p (j + 1)) = true; rw [h j hj]; rfl
  rw [this]; rfl
def spFF (K : PySem.W.Frag) : Sp := fun vs H Q _ => ∃ (n m k q : Nat) (t : Addr), vs = [.int n, .int m, .int k, .int 99, .ref t] ∧ SqT K H t (vQ (1, q)) ∧ n ≤ 8 ∧ m ≤ 8 ∧ 0 < q ∧ q ≤ 1000 ∧ ∀ H' : Hp, Same H H' → Q (.int ((ffV n m k q).getD 0 : Nat)) H'
theorem scFF : FnScope ["days", "looks", "misdeeds", "most_fine", "bound", "fine"] ["days", "looks", "misdeeds", "most_fine", "bound"] (defScope sFF) := ⟨rfl, rfl, rfl, by decide +kernel, rfl, by decide +kernel, by decide +kernel⟩
theorem ok_ff (D : Wdef K mg "fine_for" sFF ["days", "looks", "misdeeds", "most_fine", "bound"]) (cLs : Wcal P w K mg base "less" 1 (spLess K)) (cW : Wcal P w K mg base "worth" 3 (spWorth K)) (mr : mg "range" = none) : Wcal P w K mg base "fine_for" 4 (spFF K) := by
  refine D.cal fun f fd F => ?_
  refine F.ok scFF (fun vs H Q E h => ?_) (fun cdv A outer s H vs Q E hr h => ?_)
  · obtain ⟨n, m, k', q, t, rfl, _⟩ := h
    rfl
  · obtain ⟨n, m, k', q, t, rfl, ht, hn, hm, hq, hq2, k⟩ := h
    refine ⟨_, pss_cons (ps_for PassesOwn.never rfl (pi_range2 rfl mr (pa_cons pe_int (pa_cons (pe_op op_add (pv 3) pe_int) pa_nil))) (pg_name (i := 5) scFF.nd rfl (Or.inl rfl))
        (pss_one (ps_if (pt_val (pe_cal cLs hr (by decide) rfl (pa_cons (pe_cal cW hr (by decide) rfl (pa_cons (pv 0) (pa_cons (pv 1) (pa_cons (pv 2) (pa_cons (pv 5) pa_nil))))) (pa_cons (pv 4) pa_nil)))) (pss_one (ps_ret (pv 5))) pss_nil)))
      (pss_one (ps_ret pe_int)), ?_⟩
    refine ⟨_, rfl, _, _, rfl, rfl, 1, 100, rfl, ⟨by decide, by decide, by decide, by decide⟩, for_range (lo := 1) (n := 99) (fun i σ H' => Same H H' ∧ (∃ v : Option V, σ = [some (.int n), some (.int m), some (.int k'), some (.int 99), some (.ref t), v]) ∧ ∀ j, j < i → Kp317.less (Kp317.worth n m k' (j + 1)) (1, q) = false) ⟨Same.refl H, ⟨none, rfl⟩, fun j hj => by omega⟩ ?_ ?_⟩
    · rintro i σ H1 hi ⟨s1, ⟨v, rfl⟩, hj⟩
      have e1 : (1 : Int) + (i : Int) = ((i + 1 : Nat) : Int) := by omega
      rw [e1]
      refine ⟨_, rfl, _, rfl, _, rfl, _, rfl, n, m, k', i + 1, rfl, hn, hm, by omega, by omega, fun t2 H2 s2 h2 => ?_⟩
      refine ⟨_, rfl, t2, t, _, (1, q), rfl, h2, same_tup (s1.trans s2) ht, fr_w3 hn hm (by omega) (by omega), fr_q hq hq2, _, rfl, ?_⟩
      cases e : Kp317.less (Kp317.worth n m k' (i + 1)) (1, q) with
      | true =>
        refine iteT ⟨_, rfl, ?_⟩
        have := k H2 (s1.trans s2)
        unfold ffV at this
        rw [ff_some hi hj e] at this
        exact this
      | false =>
        refine iteF ⟨s1.trans s2, ⟨_, rfl⟩, fun j hj2 => ?_⟩
        by_cases c2 : j = i
        · rw [c2]; exact e
        · exact hj j (by omega)
    · rintro σ H1 ⟨s1, ⟨v, rfl⟩, hj⟩
      have := k H1 s1
      unfold ffV at this
      rw [ff_none hj] at this
      exact this
end
end Wl

set_option Elab.async false
set_option maxRecDepth 100000
set_option maxHeartbeats 2000000
namespace Wl
open PySem PySem.Spec PyProof.Rows L2
/-! ### a season in memory -/
def fl7 (b : Bool) (n m k f g c : Int) : List (Str × V) := [("begun", .bl b), ("days", .int n), ("looks", .int m), ("misdeeds", .int k), ("fine", .int f), ("gained", .int g), ("caught", .int c)]
section
variable (b : Bool) (n m k f g c y : Int)
theorem l_begun : (fl7 b n m k f g c).lookup ("begun" : Str) = some (.bl b) := rfl
theorem l_days : (fl7 b n m k f g c).lookup ("days" : Str) = some (.int n) := rfl
theorem l_looks : (fl7 b n m k f g c).lookup ("looks" : Str) = some (.int m) := rfl
theorem l_misdeeds : (fl7 b n m k f g c).lookup ("misdeeds" : Str) = some (.int k) := rfl
theorem l_fine : (fl7 b n m k f g c).lookup ("fine" : Str) = some (.int f) := rfl
theorem l_gained : (fl7 b n m k f g c).lookup ("gained" : Str) = some (.int g) := rfl
theorem l_caught : (fl7 b n m k f g c).lookup ("caught" : Str) = some (.int c) := rfl
theorem p_begun (b' : Bool) : putF "begun" (.bl b') (fl7 b n m k f g c) = fl7 b' n m k f g c := by simp [fl7, putF]
theorem ne_of_k {x y : Str} (h : decide (x = y) = false) : ¬ x = y := of_decide_eq_false h
theorem p_days : putF "days" (.int y) (fl7 b n m k f g c) = fl7 b y m k f g c := by
  unfold fl7
  rw [putF, if_neg (show ¬ (("begun" : Str) = "days") by decide +kernel)]
  rw [putF, if_pos rfl]
theorem p_looks : putF "looks" (.int y) (fl7 b n m k f g c) = fl7 b n y k f g c := by
  unfold fl7
  rw [putF, if_neg (show ¬ (("begun" : Str) = "looks") by decide +kernel)]
  rw [putF, if_neg (show ¬ (("days" : Str) = "looks") by decide +kernel)]
  rw [putF, if_pos rfl]
theorem p_misdeeds : putF "misdeeds" (.int y) (fl7 b n m k f g c) = fl7 b n m y f g c := by
  unfold fl7
  rw [putF, if_neg (show ¬ (("begun" : Str) = "misdeeds") by decide +kernel)]
  rw [putF, if_neg (show ¬ (("days" : Str) = "misdeeds") by decide +kernel)]
  rw [putF, if_neg (show ¬ (("looks" : Str) = "misdeeds") by decide +kernel)]
  rw [putF, if_pos rfl]
theorem p_fine : putF "fine" (.int y) (fl7 b n m k f g c) = fl7 b n m k y g c := by
  unfold fl7
  rw [putF, if_neg (show ¬ (("begun" : Str) = "fine") by decide +kernel)]
  rw [putF, if_neg (show ¬ (("days" : Str) = "fine") by decide +kernel)]
  rw [putF, if_neg (show ¬ (("looks" : Str) = "fine") by decide +kernel)]
  rw [putF, if_neg (show ¬ (("misdeeds" : Str) = "fine") by decide +kernel)]
  rw [putF, if_pos rfl]
theorem p_gained : putF "gained" (.int y) (fl7 b n m k f g c) = fl7 b n m k f y c := by
  unfold fl7
  rw [putF, if_neg (show ¬ (("begun" : Str) = "gained") by decide +kernel)]
  rw [putF, if_neg (show ¬ (("days" : Str) = "gained") by decide +kernel)]
  rw [putF, if_neg (show ¬ (("looks" : Str) = "gained") by decide +kernel)]
  rw [putF, if_neg (show ¬ (("misdeeds" : Str) = "gained") by decide +kernel)]
  rw [putF, if_neg (show ¬ (("fine" : Str) = "gained") by decide +kernel)]
  rw [putF, if_pos rfl]
theorem p_caught : putF "caught" (.int y) (fl7 b n m k f g c) = fl7 b n m k f g y := by
  unfold fl7
  rw [putF, if_neg (show ¬ (("begun" : Str) = "caught") by decide +kernel)]
  rw [putF, if_neg (show ¬ (("days" : Str) = "caught") by decide +kernel)]
  rw [putF, if_neg (show ¬ (("looks" : Str) = "caught") by decide +kernel)]
  rw [putF, if_neg (show ¬ (("misdeeds" : Str) = "caught") by decide +kernel)]
  rw [putF, if_neg (show ¬ (("fine" : Str) = "caught") by decide +kernel)]
  rw [putF, if_neg (show ¬ (("gained" : Str) = "caught") by decide +kernel)]
  rw [putF, if_pos rfl]
end
theorem init7 : putF "caught" (V.int 0) (putF "gained" (V.int 0) (putF "fine" (V.int 0) (putF "misdeeds" (V.int 0) (putF "looks" (V.int 0) (putF "days" (V.int 0) (putF "begun" (V.bl false) [])))))) = fl7 false 0 0 0 0 0 0 := by decide +kernel
def fst7 : Kp317.State → List (Str × V)
  | none => fl7 false 0 0 0 0 0 0
  | some s => fl7 true (nowDays s : Nat) (s.looks : Nat) (s.misdeeds : Nat) (s.fine : Nat) s.gain (if s.over then 1 else 0)
def SnAt (C : Addr) (H : Hp) (a : Addr) (st : Kp317.State) : Prop := ∃ dx, H a = some (.ins C dx (fst7 st))
structure Txt (K : PySem.W.Frag) (mg : Str → Option Value) (C : Addr) : Prop where
  cl : Cls K C
  nBegun : NoAttr K C "begun"
  nDays : NoAttr K C "days"
  nLooks : NoAttr K C "looks"
  nMisdeeds : NoAttr K C "misdeeds"
  nFine : NoAttr K C "fine"
  nGained : NoAttr K C "gained"
  nCaught : NoAttr K C "caught"
  mgC : mg "Season" = some (.ref C)
  mDays : ∃ t, mg "MOST_DAYS" = some (.int 8 t)
  mFine : ∃ t, mg "MOST_FINE" = some (.int 9 t)
  mNoDays : ∃ t, mg "NO_DAYS" = some (.int (-6) t)
  mNotBegun : ∃ t, mg "NOT_BEGUN" = some (.int (-11) t)
  mNotAllowed : ∃ t, mg "NOT_ALLOWED" = some (.int (-22) t)
  mNoneLeft : ∃ t, mg "NONE_LEFT" = some (.int (-33) t)
  mBegin : ∃ t, mg "BEGIN" = some (.int 0 t)
  mNoFine : ∃ t, mg "NO_FINE" = some (.int (-33) t)
  mFineAsked : ∃ t, mg "MOST_FINE_ASKED" = some (.int 99 t)
  mChances : ∃ t, mg "MOST_CHANCES" = some (.int 100 t)
  mParts : ∃ t, mg "MOST_PARTS" = some (.int 1000 t)
section
variable {P : Program} {w : World} {K : PySem.W.Frag} {mg : Str → Option Value} {base : Heap} {C : Addr}
def spInit (C : Addr) : Sp := fun vs H Q _ => ∃ (p dx : Addr), vs = [.ref p] ∧ H p = some (.ins C dx []) ∧ ∀ H' : Hp, H' p = some (.ins C dx (fst7 none)) → (∀ b, b ≠ p → H' b = H b) → Q .non H'
theorem scInit : FnScope ["self"] ["self"] (defScope sInit) := ⟨rfl, rfl, rfl, by decide +kernel, rfl, by decide +kernel, by decide +kernel⟩
theorem ok_init {f : Addr} {fd : FuncData} (F : Fun K "__init__" "Season.__init__" sInit f fd) (T : Txt K mg C) : FnOk P w K mg base CX0 1 f fd ["self"] (spInit C) := by
  refine F.ok scInit (fun vs H Q E h => ?_) (fun cdv A outer s H vs Q E hr h => ?_)
  · obtain ⟨p, dx, rfl, _⟩ := h
    rfl
  · obtain ⟨p, dx, rfl, hp, k⟩ := h
    refine ⟨_, pss_cons (ps_fld (pv 0) pe_bl rfl) (pss_cons (ps_fld (pv 0) pe_int rfl) (pss_cons (ps_fld (pv 0) pe_int rfl) (pss_cons (ps_fld (pv 0) pe_int rfl) (pss_cons (ps_fld (pv 0) pe_int rfl) (pss_cons (ps_fld (pv 0) pe_int rfl) (pss_one (ps_fld (pv 0) pe_int rfl))))))), ?_⟩
    refine ⟨_, rfl, p, C, dx, [], rfl, hp, T.cl, T.nBegun, (by show 0 < 1000; decide), ?_⟩
    refine ⟨_, rfl, p, C, dx, _, rfl, upd_same, T.cl, T.nDays, (by show 1 < 1000; decide), ?_⟩
    refine ⟨_, rfl, p, C, dx, _, rfl, upd_same, T.cl, T.nLooks, (by decide +kernel), ?_⟩
    refine ⟨_, rfl, p, C, dx, _, rfl, upd_same, T.cl, T.nMisdeeds, (by decide +kernel), ?_⟩
    refine ⟨_, rfl, p, C, dx, _, rfl, upd_same, T.cl, T.nFine, (by decide +kernel), ?_⟩
    refine ⟨_, rfl, p, C, dx, _, rfl, upd_same, T.cl, T.nGained, (by decide +kernel), ?_⟩
    refine ⟨_, rfl, p, C, dx, _, rfl, upd_same, T.cl, T.nCaught, (by decide +kernel), ?_⟩
    rw [init7]
    exact k _ upd_same fun b hb => by
      rw [upd_ne hb, upd_ne hb, upd_ne hb, upd_ne hb, upd_ne hb, upd_ne hb, upd_ne hb]
/-! ### season_allowed, fine_allowed, told_fraction -/
def spSA : Sp := fun vs H Q _ => ∃ n m k : Nat, vs = [.int n, .int m, .int k] ∧ Q (.bl (Kp317.okN n m k)) H
theorem scSA : FnScope ["days", "looks", "misdeeds"] ["days", "looks", "misdeeds"] (defScope sSA) := ⟨rfl, rfl, rfl, by decide +kernel, rfl, by decide +kernel, by decide +kernel⟩
theorem ok_sa (D : Wdef K mg "season_allowed" sSA ["days", "looks", "misdeeds"]) (T : Txt K mg C) : Wcal P w K mg base "season_allowed" 1 spSA := by
  refine D.cal fun f fd F => ?_
  refine F.ok scSA (fun vs H Q E h => ?_) (fun cdv A outer s H vs Q E hr h => ?_)
  · obtain ⟨a, b, c, rfl, _⟩ := h
    rfl
  · obtain ⟨n, m, k', rfl, k⟩ := h
    obtain ⟨t8, m8⟩ := T.mDays
    refine ⟨_, pss_one (ps_ret (pe_and (pe_chain op_le op_le pe_int (pv 0) (pe_glob (v := .int 8) rfl m8 ⟨_, rfl⟩)) (pe_and (pe_cmpR op_le (pv 1) (pv 0) (nomark _)) (pe_one (pe_cmpR op_le (pv 2) (pv 0) (nomark _)))))), ?_⟩
    unfold Kp317.okN at k
    refine ⟨_, rfl, _, _, rfl, rfl, _, rfl, ite2 (fun c1 => ?_) (fun c1 => ?_)⟩
    · have c1 : 1 ≤ n := by have := of_decide_eq_true c1; omega
      rw [decide_eq_true c1, Bool.true_and] at k
      refine ⟨_, _, rfl, rfl, _, rfl, ite2 (fun c2 => ?_) (fun c2 => ?_)⟩
      · have c2 : n ≤ 8 := by have := of_decide_eq_true c2; omega
        rw [decide_eq_true c2, Bool.true_and] at k
        refine ⟨_, rfl, _, rfl, _, _, rfl, rfl, _, rfl, ite2 (fun c3 => ?_) (fun c3 => ?_)⟩
        · have c3 : m ≤ n := by have := of_decide_eq_true c3; omega
          rw [decide_eq_true c3, Bool.true_and] at k
          refine ⟨_, rfl, _, rfl, _, _, rfl, rfl, ?_⟩
          have e : decide ((k' : Int) ≤ n) = decide (k' ≤ n) := by rw [decide_eq_decide]; omega
          show Q (V.bl (decide ((k' : Int) ≤ n))) H
          rw [e]
          exact k
        · have c3 : ¬ m ≤ n := fun q => c3 (decide_eq_true (by omega))
          rw [decide_eq_false c3, Bool.false_and] at k
          exact k
      · have c2 : ¬ n ≤ 8 := fun q => c2 (decide_eq_true (by omega))
        rw [decide_eq_false c2, Bool.false_and] at k
        exact k
    · have c1 : ¬ 1 ≤ n := fun q => c1 (decide_eq_true (by omega))
      rw [decide_eq_false c1, Bool.false_and] at k
      exact ⟨_, rfl, iteF k⟩
def spFA : Sp := fun vs H Q _ => ∃ b : Nat, vs = [.int b] ∧ Q (.bl (Kp317.okB b)) H
theorem scFA : FnScope ["fine"] ["fine"] (defScope sFA) := ⟨rfl, rfl, rfl, by decide +kernel, rfl, by decide +kernel, by decide +kernel⟩
theorem ok_fa (D : Wdef K mg "fine_allowed" sFA ["fine"]) (T : Txt K mg C) : Wcal P w K mg base "fine_allowed" 1 spFA := by
  refine D.cal fun f fd F => ?_
  refine F.ok scFA (fun vs H Q E h => ?_) (fun cdv A outer s H vs Q E hr h => ?_)
  · obtain ⟨a, rfl, _⟩ := h
    rfl
  · obtain ⟨b, rfl, k⟩ := h
    obtain ⟨t9, m9⟩ := T.mFine
    refine ⟨_, pss_one (ps_ret (pe_chain op_le op_le pe_int (pv 0) (pe_glob (v := .int 9) rfl m9 ⟨_, rfl⟩))), ?_⟩
    unfold Kp317.okB at k
    refine ⟨_, rfl, _, _, rfl, rfl, _, rfl, ite2 (fun c1 => ?_) (fun c1 => ?_)⟩
    · have c1 : 1 ≤ b := by have := of_decide_eq_true c1; omega
      rw [decide_eq_true c1, Bool.true_and] at k
      refine ⟨_, _, rfl, rfl, ?_⟩
      have e : decide ((b : Int) ≤ 9) = decide (b ≤ 9) := by rw [decide_eq_decide]; omega
      show Q (V.bl (decide ((b : Int) ≤ 9))) H
      rw [e]
      exact k
    · have c1 : ¬ 1 ≤ b := fun q => c1 (decide_eq_true (by omega))
      rw [decide_eq_false c1, Bool.false_and] at k
      exact k
def spTF (K : PySem.W.Frag) : Sp := fun vs H Q _ => ∃ (t : Addr) (x y : Int), vs = [.ref t] ∧ SqT K H t [.int x, .int y] ∧ ∀ p, H p = none → Q (.ref p) (upd H p (.lst [.int 0, .int x, .int y]))
theorem scTF : FnScope ["fraction"] ["fraction"] (defScope sTF) := ⟨rfl, rfl, rfl, by decide +kernel, rfl, by decide +kernel, by decide +kernel⟩
theorem ok_tf (D : Wdef K mg "told_fraction" sTF ["fraction"]) : Wcal P w K mg base "told_fraction" 1 (spTF K) := by
  refine D.cal fun f fd F => ?_
  refine F.ok scTF (fun vs H Q E h => ?_) (fun cdv A outer s H vs Q E hr h => ?_)
  · obtain ⟨t, x, y, rfl, _⟩ := h
    rfl
  · obtain ⟨t, x, y, rfl, ht, k⟩ := h
    refine ⟨_, pss_one (ps_ret (pe_lst (pa_cons pe_int (pa_cons (pe_ix ix_tup (pv 0) pe_int (fun _ _ => rfl)) (pa_cons (pe_ix ix_tup (pv 0) pe_int (fun _ _ => rfl)) pa_nil))))), ?_⟩
    exact ⟨_, rfl, t, _, _, _, rfl, rfl, ht, rfl, _, rfl, t, _, _, _, rfl, rfl, ht, rfl, (by show 3 ≤ sizeLine; decide), fun p hp => k p hp⟩
end
end Wl

set_option Elab.async false
set_option maxRecDepth 100000
set_option maxHeartbeats 2000000
namespace Wl
open PySem PySem.Spec PyProof.Rows L2
section
variable {P : Program} {w : World} {K : PySem.W.Frag} {mg : Str → Option Value} {base : Heap} {C : Addr}
/-- how an answer is given: the season is st, the answer a new list -/
def PostA (C : Addr) (H : Hp) (a : Addr) (st : Kp317.State) (ans : List Int) (Q : VK) : Prop :=
  ∀ (H' : Hp) (p : Addr), SnAt C H' a st → H' p = some (.lst (ans.map V.int)) → H p = none → (∀ b o, H b = some o → b ≠ a → H' b = some o) → Q (.ref p) H'
def spA (C : Addr) (R : List Int → Kp317.State → Kp317.Call → Prop) : Sp := fun vs H Q _ => ∃ (a l : Addr) (ns : List Int) (st : Kp317.State) (x : Kp317.Call),
  vs = [.ref a, .ref l] ∧ SnAt C H a st ∧ Good st ∧ H l = some (.lst (ns.map V.int)) ∧ R ns st x ∧ PostA C H a (Kp317.step st x).1 (ansOf (Kp317.step st x).2) Q
theorem PostA.new {H : Hp} {a : Addr} {st : Kp317.State} {ans : List Int} {Q : VK} (k : PostA C H a st ans Q) (h : SnAt C H a st) {p : Addr} (hp : H p = none) : Q (.ref p) (upd H p (.lst (ans.map V.int))) := by
  obtain ⟨dx, e⟩ := h
  exact k _ p ⟨dx, by rw [upd_ne (ne_of_none e hp)]; exact e⟩ upd_same hp fun b o q _ => by rw [upd_ne (ne_of_none q hp)]; exact q
theorem PostA.same {H H1 : Hp} {a : Addr} {st : Kp317.State} {ans : List Int} {Q : VK} (k : PostA C H a st ans Q) (sm : Same H H1) : PostA C H1 a st ans Q :=
  fun H' p h1 h2 h3 h4 => k H' p h1 h2 (sm.free h3) fun b o e hb => h4 b o (sm b o e) hb
theorem sn_same {H H1 : Hp} {a : Addr} {st : Kp317.State} (h : SnAt C H a st) (sm : Same H H1) : SnAt C H1 a st := by
  obtain ⟨dx, e⟩ := h
  exact ⟨dx, sm _ _ e⟩
theorem PostA.frac {H H1 : Hp} {a : Addr} {st : Kp317.State} {x : Kp317.Q} {Q : VK} (k : PostA C H a st (ansOf (Kp317.tell x)) Q) (h : SnAt C H a st) (sm : Same H H1) {p : Addr} (hp : H1 p = none) :
    Q (.ref p) (upd H1 p (.lst [.int 0, .int x.1, .int (x.2 : Nat)])) := PostA.new (PostA.same k sm) (sn_same h sm) hp
/-! ### answer_gain, answer_left -/
theorem scGain : FnScope ["season", "numbers"] ["season", "numbers"] (defScope sGain) := ⟨rfl, rfl, rfl, by decide +kernel, rfl, by decide +kernel, by decide +kernel⟩
def rGain (_ : List Int) (st : Kp317.State) (x : Kp317.Call) : Prop := x = .gain ∧ ∃ s, st = some s
theorem ok_gain (D : Wdef K mg "answer_gain" sGain ["season", "numbers"]) (T : Txt K mg C) : Wcal P w K mg base "answer_gain" 1 (spA C rGain) := by
  refine D.cal fun f fd F => ?_
  refine F.ok scGain (fun vs H Q E h => ?_) (fun cdv A outer s H vs Q E hr h => ?_)
  · obtain ⟨a, l, ns, st, x, rfl, _⟩ := h
    rfl
  · obtain ⟨a, l, ns, st, x, rfl, hA, hG, hL, ⟨rfl, z, rfl⟩, k⟩ := h
    obtain ⟨dx, ha⟩ := id hA
    refine ⟨_, pss_one (ps_ret (pe_lst (pa_cons (pe_fld (pv 0) rfl) (pa_cons (pe_fld (pv 0) rfl) pa_nil)))), ?_⟩
    exact ⟨_, rfl, a, C, dx, _, _, rfl, ha, T.cl, T.nCaught, l_caught .., _, rfl, a, C, dx, _, _, rfl, ha, T.cl, T.nGained, l_gained .., (by show 2 ≤ sizeLine; decide), fun p hp => PostA.new k hA hp⟩
theorem scLeft : FnScope ["season", "numbers"] ["season", "numbers"] (defScope sLeft) := ⟨rfl, rfl, rfl, by decide +kernel, rfl, by decide +kernel, by decide +kernel⟩
def rLeft (_ : List Int) (st : Kp317.State) (x : Kp317.Call) : Prop := x = .left ∧ ∃ s, st = some s
theorem ok_left (D : Wdef K mg "answer_left" sLeft ["season", "numbers"]) (T : Txt K mg C) : Wcal P w K mg base "answer_left" 1 (spA C rLeft) := by
  refine D.cal fun f fd F => ?_
  refine F.ok scLeft (fun vs H Q E h => ?_) (fun cdv A outer s H vs Q E hr h => ?_)
  · obtain ⟨a, l, ns, st, x, rfl, _⟩ := h
    rfl
  · obtain ⟨a, l, ns, st, x, rfl, hA, hG, hL, ⟨rfl, z, rfl⟩, k⟩ := h
    obtain ⟨dx, ha⟩ := id hA
    refine ⟨_, pss_one (ps_ret (pe_lst (pa_cons (pe_fld (pv 0) rfl) (pa_cons (pe_fld (pv 0) rfl) (pa_cons (pe_fld (pv 0) rfl) (pa_cons (pe_fld (pv 0) rfl) pa_nil)))))), ?_⟩
    exact ⟨_, rfl, a, C, dx, _, _, rfl, ha, T.cl, T.nDays, l_days .., _, rfl, a, C, dx, _, _, rfl, ha, T.cl, T.nLooks, l_looks .., _, rfl, a, C, dx, _, _, rfl, ha, T.cl, T.nMisdeeds, l_misdeeds .., _, rfl, a, C, dx, _, _, rfl, ha, T.cl, T.nFine, l_fine .., (by show 4 ≤ sizeLine; decide), fun p hp => PostA.new k hA hp⟩
/-! ### answer_worth, answer_look, answer_dare -/
theorem good_now {s : Kp317.Season} (h : Good (some s)) : nowDays s ≤ 8 ∧ s.looks ≤ 8 ∧ s.misdeeds ≤ 8 ∧ 0 < s.fine ∧ s.fine ≤ 99 := by
  obtain ⟨h1, h2, h3, h4, h5⟩ := h
  refine ⟨?_, h2, h3, by omega, by omega⟩
  unfold nowDays
  split <;> omega
theorem scAWorth : FnScope ["season", "numbers"] ["season", "numbers"] (defScope sAWorth) := ⟨rfl, rfl, rfl, by decide +kernel, rfl, by decide +kernel, by decide +kernel⟩
def rWorth (_ : List Int) (st : Kp317.State) (x : Kp317.Call) : Prop := x = .worth ∧ ∃ s, st = some s
theorem ok_aworth (D : Wdef K mg "answer_worth" sAWorth ["season", "numbers"]) (T : Txt K mg C) (cT : Wcal P w K mg base "told_fraction" 1 (spTF K)) (cW : Wcal P w K mg base "worth" 3 (spWorth K)) : Wcal P w K mg base "answer_worth" 4 (spA C rWorth) := by
  refine D.cal fun f fd F => ?_
  refine F.ok scAWorth (fun vs H Q E h => ?_) (fun cdv A outer s H vs Q E hr h => ?_)
  · obtain ⟨a, l, ns, st, x, rfl, _⟩ := h
    rfl
  · obtain ⟨a, l, ns, st, x, rfl, hA, hG, hL, ⟨rfl, z, rfl⟩, k⟩ := h
    obtain ⟨dx, ha⟩ := id hA
    obtain ⟨g1, g2, g3, g4, g5⟩ := good_now hG
    refine ⟨_, pss_one (ps_ret (pe_cal cT hr (by decide) rfl (pa_cons (pe_cal cW hr (by decide) rfl (pa_cons (pe_fld (pv 0) rfl) (pa_cons (pe_fld (pv 0) rfl) (pa_cons (pe_fld (pv 0) rfl) (pa_cons (pe_fld (pv 0) rfl) pa_nil))))) pa_nil))), ?_⟩
    exact ⟨_, rfl, a, C, dx, _, _, rfl, ha, T.cl, T.nDays, l_days .., _, rfl, a, C, dx, _, _, rfl, ha, T.cl, T.nLooks, l_looks .., _, rfl, a, C, dx, _, _, rfl, ha, T.cl, T.nMisdeeds, l_misdeeds .., _, rfl, a, C, dx, _, _, rfl, ha, T.cl, T.nFine, l_fine ..,
      nowDays z, z.looks, z.misdeeds, z.fine, rfl, g1, g2, g4, g5, fun t H1 sm ht => ⟨t, _, _, rfl, ht, fun p hp => PostA.frac k hA sm hp⟩⟩
theorem scALook : FnScope ["season", "numbers"] ["season", "numbers"] (defScope sALook) := ⟨rfl, rfl, rfl, by decide +kernel, rfl, by decide +kernel, by decide +kernel⟩
def rLook (_ : List Int) (st : Kp317.State) (x : Kp317.Call) : Prop := x = .look ∧ ∃ s, st = some s
theorem ok_alook (D : Wdef K mg "answer_look" sALook ["season", "numbers"]) (T : Txt K mg C) (cT : Wcal P w K mg base "told_fraction" 1 (spTF K)) (cW : Wcal P w K mg base "look_chance" 3 (spLook K)) : Wcal P w K mg base "answer_look" 4 (spA C rLook) := by
  refine D.cal fun f fd F => ?_
  refine F.ok scALook (fun vs H Q E h => ?_) (fun cdv A outer s H vs Q E hr h => ?_)
  · obtain ⟨a, l, ns, st, x, rfl, _⟩ := h
    rfl
  · obtain ⟨a, l, ns, st, x, rfl, hA, hG, hL, ⟨rfl, z, rfl⟩, k⟩ := h
    obtain ⟨dx, ha⟩ := id hA
    obtain ⟨g1, g2, g3, g4, g5⟩ := good_now hG
    obtain ⟨t6, m6⟩ := T.mNoDays
    refine ⟨_, pss_cons (ps_if (pt_cmpR op_eq (pe_fld (pv 0) rfl) pe_int (nomark _)) (pss_one (ps_ret (pe_lst (pa_cons (pe_glob (v := .int (-6)) rfl m6 ⟨_, rfl⟩) pa_nil)))) pss_nil)
      (pss_one (ps_ret (pe_cal cT hr (by decide) rfl (pa_cons (pe_cal cW hr (by decide) rfl (pa_cons (pe_fld (pv 0) rfl) (pa_cons (pe_fld (pv 0) rfl) (pa_cons (pe_fld (pv 0) rfl) pa_nil)))) pa_nil)))), ?_⟩
    refine ⟨_, rfl, a, C, dx, _, _, rfl, ha, T.cl, T.nDays, l_days .., rfl, _, rfl, ite2 (fun c => ?_) (fun c => ?_)⟩
    · have c := int_eq_zero c
      refine ⟨(by show 1 ≤ sizeLine; decide), fun p hp => ?_⟩
      have e : Kp317.step (some z) .look = (some z, Kp317.say (-6)) := by
        show (some z, if nowDays z = 0 then _ else _) = _
        rw [if_pos c]
      rw [e] at k
      exact PostA.new k hA hp
    · have c := int_ne_zero c
      have e : Kp317.step (some z) .look = (some z, Kp317.tell (Kp317.look (nowDays z) z.looks z.fine)) := by
        show (some z, if nowDays z = 0 then _ else _) = _
        rw [if_neg c]; rfl
      rw [e] at k
      exact ⟨_, rfl, a, C, dx, _, _, rfl, ha, T.cl, T.nDays, l_days .., _, rfl, a, C, dx, _, _, rfl, ha, T.cl, T.nLooks, l_looks .., _, rfl, a, C, dx, _, _, rfl, ha, T.cl, T.nFine, l_fine ..,
        nowDays z, z.looks, z.fine, rfl, by omega, g1, g2, g4, g5, fun t H1 sm ht => ⟨t, _, _, rfl, ht, fun p hp => PostA.frac k hA sm hp⟩⟩
theorem scADare : FnScope ["season", "numbers"] ["season", "numbers"] (defScope sADare) := ⟨rfl, rfl, rfl, by decide +kernel, rfl, by decide +kernel, by decide +kernel⟩
def rDare (_ : List Int) (st : Kp317.State) (x : Kp317.Call) : Prop := x = .dare ∧ ∃ s, st = some s
theorem ok_adare (D : Wdef K mg "answer_dare" sADare ["season", "numbers"]) (T : Txt K mg C) (cT : Wcal P w K mg base "told_fraction" 1 (spTF K)) (cW : Wcal P w K mg base "dare_chance" 3 (spDare K)) : Wcal P w K mg base "answer_dare" 4 (spA C rDare) := by
  refine D.cal fun f fd F => ?_
  refine F.ok scADare (fun vs H Q E h => ?_) (fun cdv A outer s H vs Q E hr h => ?_)
  · obtain ⟨a, l, ns, st, x, rfl, _⟩ := h
    rfl
  · obtain ⟨a, l, ns, st, x, rfl, hA, hG, hL, ⟨rfl, z, rfl⟩, k⟩ := h
    obtain ⟨dx, ha⟩ := id hA
    obtain ⟨g1, g2, g3, g4, g5⟩ := good_now hG
    obtain ⟨t6, m6⟩ := T.mNoDays
    refine ⟨_, pss_cons (ps_if (pt_cmpR op_eq (pe_fld (pv 0) rfl) pe_int (nomark _)) (pss_one (ps_ret (pe_lst (pa_cons (pe_glob (v := .int (-6)) rfl m6 ⟨_, rfl⟩) pa_nil)))) pss_nil)
      (pss_one (ps_ret (pe_cal cT hr (by decide) rfl (pa_cons (pe_cal cW hr (by decide) rfl (pa_cons (pe_fld (pv 0) rfl) (pa_cons (pe_fld (pv 0) rfl) (pa_cons (pe_fld (pv 0) rfl) (pa_cons (pe_fld (pv 0) rfl) pa_nil))))) pa_nil)))), ?_⟩
    refine ⟨_, rfl, a, C, dx, _, _, rfl, ha, T.cl, T.nDays, l_days .., rfl, _, rfl, ite2 (fun c => ?_) (fun c => ?_)⟩
    · have c := int_eq_zero c
      refine ⟨(by show 1 ≤ sizeLine; decide), fun p hp => ?_⟩
      have e : Kp317.step (some z) .dare = (some z, Kp317.say (-6)) := by
        show (some z, if nowDays z = 0 then _ else _) = _
        rw [if_pos c]
      rw [e] at k
      exact PostA.new k hA hp
    · have c := int_ne_zero c
      have e : Kp317.step (some z) .dare = (some z, Kp317.tell (Kp317.dare (nowDays z) z.looks z.misdeeds z.fine)) := by
        show (some z, if nowDays z = 0 then _ else _) = _
        rw [if_neg c]; rfl
      rw [e] at k
      exact ⟨_, rfl, a, C, dx, _, _, rfl, ha, T.cl, T.nDays, l_days .., _, rfl, a, C, dx, _, _, rfl, ha, T.cl, T.nLooks, l_looks .., _, rfl, a, C, dx, _, _, rfl, ha, T.cl, T.nMisdeeds, l_misdeeds .., _, rfl, a, C, dx, _, _, rfl, ha, T.cl, T.nFine, l_fine ..,
        nowDays z, z.looks, z.misdeeds, z.fine, rfl, by omega, g1, g2, g4, g5, fun t H1 sm ht => ⟨t, _, _, rfl, ht, fun p hp => PostA.frac k hA sm hp⟩⟩
/-! ### answer_worthof, answer_iffine -/
theorem scAWorthof : FnScope ["season", "numbers"] ["season", "numbers"] (defScope sAWorthof) := ⟨rfl, rfl, rfl, by decide +kernel, rfl, by decide +kernel, by decide +kernel⟩
def rWorthof (ns : List Int) (st : Kp317.State) (x : Kp317.Call) : Prop := ∃ n m k : Nat, ns = [(n : Int), (m : Int), (k : Int)] ∧ x = .worthOf n m k ∧ ∃ s, st = some s
theorem ok_aworthof (D : Wdef K mg "answer_worthof" sAWorthof ["season", "numbers"]) (T : Txt K mg C) (cT : Wcal P w K mg base "told_fraction" 1 (spTF K)) (cW : Wcal P w K mg base "worth" 3 (spWorth K)) (cS : Wcal P w K mg base "season_allowed" 1 spSA) : Wcal P w K mg base "answer_worthof" 4 (spA C rWorthof) := by
  refine D.cal fun f fd F => ?_
  refine F.ok scAWorthof (fun vs H Q E h => ?_) (fun cdv A outer s H vs Q E hr h => ?_)
  · obtain ⟨a, l, ns, st, x, rfl, _⟩ := h
    rfl
  · obtain ⟨a, l, ns, st, x, rfl, hA, hG, hL, ⟨n, m, k', rfl, rfl, z, rfl⟩, k⟩ := h
    obtain ⟨dx, ha⟩ := id hA
    obtain ⟨g1, g2, g3, g4, g5⟩ := good_now hG
    obtain ⟨t6, m6⟩ := T.mNotAllowed
    refine ⟨_, pss_cons (ps_if (pt_not (pt_val (pe_cal cS hr (by decide) rfl (pa_cons (pe_ix ix_list (pv 1) pe_int (fun _ _ => rfl)) (pa_cons (pe_ix ix_list (pv 1) pe_int (fun _ _ => rfl)) (pa_cons (pe_ix ix_list (pv 1) pe_int (fun _ _ => rfl)) pa_nil)))))) (pss_one (ps_ret (pe_lst (pa_cons (pe_glob (v := .int (-22)) rfl m6 ⟨_, rfl⟩) pa_nil)))) pss_nil)
      (pss_one (ps_ret (pe_cal cT hr (by decide) rfl (pa_cons (pe_cal cW hr (by decide) rfl (pa_cons (pe_ix ix_list (pv 1) pe_int (fun _ _ => rfl)) (pa_cons (pe_ix ix_list (pv 1) pe_int (fun _ _ => rfl)) (pa_cons (pe_ix ix_list (pv 1) pe_int (fun _ _ => rfl)) (pa_cons (pe_fld (pv 0) rfl) pa_nil))))) pa_nil)))), ?_⟩
    refine ⟨_, rfl, l, _, _, _, rfl, rfl, SqL.of hL, rfl, _, rfl, l, _, _, _, rfl, rfl, SqL.of hL, rfl, _, rfl, l, _, _, _, rfl, rfl, SqL.of hL, rfl, n, m, k', rfl, _, rfl, ?_⟩
    cases o : Kp317.okN n m k' with
    | false =>
      refine iteT ⟨(by show 1 ≤ sizeLine; decide), fun p hp => ?_⟩
      have e : Kp317.step (some z) (.worthOf n m k') = (some z, Kp317.say (-22)) := by
        show (some z, if Kp317.okN n m k' = false then _ else _) = _
        rw [if_pos o]
      rw [e] at k
      exact PostA.new k hA hp
    | true =>
      obtain ⟨o1, o2, o3, o4⟩ := okN_le o
      have e : Kp317.step (some z) (.worthOf n m k') = (some z, Kp317.tell (Kp317.worth n m k' z.fine)) := by
        show (some z, if Kp317.okN n m k' = false then _ else _) = _
        rw [if_neg (by rw [o]; decide)]
      rw [e] at k
      exact iteF ⟨_, rfl, l, _, _, _, rfl, rfl, SqL.of hL, rfl, _, rfl, l, _, _, _, rfl, rfl, SqL.of hL, rfl, _, rfl, l, _, _, _, rfl, rfl, SqL.of hL, rfl, _, rfl, a, C, dx, _, _, rfl, ha, T.cl, T.nFine, l_fine ..,
        n, m, k', z.fine, rfl, o2, o3, g4, g5, fun t H1 sm ht => ⟨t, _, _, rfl, ht, fun p hp => PostA.frac k hA sm hp⟩⟩
theorem scAIffine : FnScope ["season", "numbers"] ["season", "numbers"] (defScope sAIffine) := ⟨rfl, rfl, rfl, by decide +kernel, rfl, by decide +kernel, by decide +kernel⟩
def rIffine (ns : List Int) (st : Kp317.State) (x : Kp317.Call) : Prop := ∃ b : Nat, ns = [(b : Int)] ∧ x = .ifFine b ∧ ∃ s, st = some s
theorem ok_aiffine (D : Wdef K mg "answer_iffine" sAIffine ["season", "numbers"]) (T : Txt K mg C) (cT : Wcal P w K mg base "told_fraction" 1 (spTF K)) (cW : Wcal P w K mg base "worth" 3 (spWorth K)) (cF : Wcal P w K mg base "fine_allowed" 1 spFA) : Wcal P w K mg base "answer_iffine" 4 (spA C rIffine) := by
  refine D.cal fun f fd F => ?_
  refine F.ok scAIffine (fun vs H Q E h => ?_) (fun cdv A outer s H vs Q E hr h => ?_)
  · obtain ⟨a, l, ns, st, x, rfl, _⟩ := h
    rfl
  · obtain ⟨a, l, ns, st, x, rfl, hA, hG, hL, ⟨b, rfl, rfl, z, rfl⟩, k⟩ := h
    obtain ⟨dx, ha⟩ := id hA
    obtain ⟨g1, g2, g3, g4, g5⟩ := good_now hG
    obtain ⟨t6, m6⟩ := T.mNotAllowed
    refine ⟨_, pss_cons (ps_if (pt_not (pt_val (pe_cal cF hr (by decide) rfl (pa_cons (pe_ix ix_list (pv 1) pe_int (fun _ _ => rfl)) pa_nil)))) (pss_one (ps_ret (pe_lst (pa_cons (pe_glob (v := .int (-22)) rfl m6 ⟨_, rfl⟩) pa_nil)))) pss_nil)
      (pss_one (ps_ret (pe_cal cT hr (by decide) rfl (pa_cons (pe_cal cW hr (by decide) rfl (pa_cons (pe_fld (pv 0) rfl) (pa_cons (pe_fld (pv 0) rfl) (pa_cons (pe_fld (pv 0) rfl) (pa_cons (pe_ix ix_list (pv 1) pe_int (fun _ _ => rfl)) pa_nil))))) pa_nil)))), ?_⟩
    refine ⟨_, rfl, l, _, _, _, rfl, rfl, SqL.of hL, rfl, b, rfl, _, rfl, ?_⟩
    cases o : Kp317.okB b with
    | false =>
      refine iteT ⟨(by show 1 ≤ sizeLine; decide), fun p hp => ?_⟩
      have e : Kp317.step (some z) (.ifFine b) = (some z, Kp317.say (-22)) := by
        show (some z, if Kp317.okB b = false then _ else _) = _
        rw [if_pos o]
      rw [e] at k
      exact PostA.new k hA hp
    | true =>
      obtain ⟨o1, o2⟩ := okB_le o
      have e : Kp317.step (some z) (.ifFine b) = (some z, Kp317.tell (Kp317.worth (nowDays z) z.looks z.misdeeds b)) := by
        show (some z, if Kp317.okB b = false then _ else _) = _
        rw [if_neg (by rw [o]; decide)]; rfl
      rw [e] at k
      exact iteF ⟨_, rfl, a, C, dx, _, _, rfl, ha, T.cl, T.nDays, l_days .., _, rfl, a, C, dx, _, _, rfl, ha, T.cl, T.nLooks, l_looks .., _, rfl, a, C, dx, _, _, rfl, ha, T.cl, T.nMisdeeds, l_misdeeds .., _, rfl, l, _, _, _, rfl, rfl, SqL.of hL, rfl,
        nowDays z, z.looks, z.misdeeds, b, rfl, g1, g2, by omega, by omega, fun t H1 sm ht => ⟨t, _, _, rfl, ht, fun p hp => PostA.frac k hA sm hp⟩⟩
end
end Wl

set_option Elab.async false
set_option maxRecDepth 100000
set_option maxHeartbeats 2000000
namespace Wl
open PySem PySem.Spec PyProof.Rows L2
section
variable {P : Program} {w : World} {K : PySem.W.Frag} {mg : Str → Option Value} {base : Heap} {C : Addr}
/-! ### answer_begin -/
theorem scABegin : FnScope ["season", "numbers"] ["season", "numbers"] (defScope sABegin) := ⟨rfl, rfl, rfl, by decide +kernel, rfl, by decide +kernel, by decide +kernel⟩
def rBegin (ns : List Int) (_ : Kp317.State) (x : Kp317.Call) : Prop := ∃ n m k b : Nat, ns = [(n : Int), (m : Int), (k : Int), (b : Int)] ∧ x = .begin_ n m k b
/-- behind stores at one place -/
theorem upd_upd {H : Hp} {a : Addr} {o o' : HO} : upd (upd H a o) a o' = upd H a o' := by
  funext b
  by_cases h : b = a
  · subst h; rw [upd_same, upd_same]
  · rw [upd_ne h, upd_ne h, upd_ne h]
theorem PostA.put {H : Hp} {a : Addr} {st st' : Kp317.State} {ans : List Int} {Q : VK} {dx : Addr} (k : PostA C H a st' ans Q) (h : SnAt C H a st) {p : Addr} (hp : upd H a (.ins C dx (fst7 st')) p = none) : Q (.ref p) (upd (upd H a (.ins C dx (fst7 st'))) p (.lst (ans.map V.int))) := by
  obtain ⟨d0, e⟩ := h
  have hpa : p ≠ a := fun q => by rw [q, upd_same] at hp; cases hp
  have hp0 : H p = none := by rw [upd_ne hpa] at hp; exact hp
  refine k _ p ⟨dx, by rw [upd_ne (Ne.symm hpa), upd_same]⟩ upd_same hp0 fun b o q hb => ?_
  rw [upd_ne (ne_of_none q hp0), upd_ne hb]; exact q
theorem fst7_ex (st : Kp317.State) : ∃ b n m k f g c, fst7 st = fl7 b n m k f g c := by
  cases st with
  | none => exact ⟨_, _, _, _, _, _, _, rfl⟩
  | some s => exact ⟨_, _, _, _, _, _, _, rfl⟩
theorem fl7_len (b : Bool) (n m k f g c : Int) : (fl7 b n m k f g c).length < 1000 := by
  show 7 < 1000
  decide
theorem ok_abegin (D : Wdef K mg "answer_begin" sABegin ["season", "numbers"]) (T : Txt K mg C) (cS : Wcal P w K mg base "season_allowed" 1 spSA) (cF : Wcal P w K mg base "fine_allowed" 1 spFA) : Wcal P w K mg base "answer_begin" 2 (spA C rBegin) := by
  refine D.cal fun f fd F => ?_
  refine F.ok scABegin (fun vs H Q E h => ?_) (fun cdv A outer s H vs Q E hr h => ?_)
  · obtain ⟨a, l, ns, st, x, rfl, _⟩ := h
    rfl
  · obtain ⟨a, l, ns, st, x, rfl, hA, hG, hL, ⟨n, m, k', b, rfl, rfl⟩, k⟩ := h
    obtain ⟨dx, ha⟩ := id hA
    obtain ⟨t6, m6⟩ := T.mNotAllowed
    refine ⟨_, pss_cons (ps_if (PW.pt (pw_or (pt_not (pt_val (pe_cal cS hr (by decide) rfl (pa_cons (pe_ix ix_list (pv 1) pe_int (fun _ _ => rfl)) (pa_cons (pe_ix ix_list (pv 1) pe_int (fun _ _ => rfl)) (pa_cons (pe_ix ix_list (pv 1) pe_int (fun _ _ => rfl)) pa_nil))))))
        (pw_or1 (pt_not (pt_val (pe_cal cF hr (by decide) rfl (pa_cons (pe_ix ix_list (pv 1) pe_int (fun _ _ => rfl)) pa_nil))))))) (pss_one (ps_ret (pe_lst (pa_cons (pe_glob (v := .int (-22)) rfl m6 ⟨_, rfl⟩) pa_nil)))) pss_nil)
      (pss_cons (ps_fld (pv 0) pe_bl rfl)
      (pss_cons (ps_fld (pv 0) (pe_ix ix_list (pv 1) pe_int (fun _ _ => rfl)) rfl)
      (pss_cons (ps_fld (pv 0) (pe_ix ix_list (pv 1) pe_int (fun _ _ => rfl)) rfl)
      (pss_cons (ps_fld (pv 0) (pe_ix ix_list (pv 1) pe_int (fun _ _ => rfl)) rfl)
      (pss_cons (ps_fld (pv 0) (pe_ix ix_list (pv 1) pe_int (fun _ _ => rfl)) rfl)
      (pss_cons (ps_fld (pv 0) pe_int rfl)
      (pss_cons (ps_fld (pv 0) pe_int rfl)
      (pss_one (ps_ret (pe_lst (pa_cons pe_int pa_nil))))))))))), ?_⟩
    refine ⟨_, rfl, l, _, _, _, rfl, rfl, SqL.of hL, rfl, _, rfl, l, _, _, _, rfl, rfl, SqL.of hL, rfl, _, rfl, l, _, _, _, rfl, rfl, SqL.of hL, rfl, n, m, k', rfl, _, rfl, ?_⟩
    cases o : Kp317.okN n m k' with
    | false =>
      refine iteT (iteT ⟨(by show 1 ≤ sizeLine; decide), fun p hp => ?_⟩)
      have e : Kp317.step st (.begin_ n m k' b) = (st, Kp317.say (-22)) := by
        show (if Kp317.okN n m k' = false ∨ Kp317.okB b = false then _ else _) = _
        rw [if_pos (.inl o)]
      rw [e] at k
      exact PostA.new k hA hp
    | true =>
      refine iteF ⟨_, rfl, l, _, _, _, rfl, rfl, SqL.of hL, rfl, b, rfl, _, rfl, ?_⟩
      cases o2 : Kp317.okB b with
      | false =>
        refine iteT ⟨(by show 1 ≤ sizeLine; decide), fun p hp => ?_⟩
        have e : Kp317.step st (.begin_ n m k' b) = (st, Kp317.say (-22)) := by
          show (if Kp317.okN n m k' = false ∨ Kp317.okB b = false then _ else _) = _
          rw [if_pos (.inr o2)]
        rw [e] at k
        exact PostA.new k hA hp
      | true =>
        have e : Kp317.step st (.begin_ n m k' b) = (some ⟨n, m, k', b, 0, false⟩, Kp317.say 0) := by
          show (if Kp317.okN n m k' = false ∨ Kp317.okB b = false then _ else _) = _
          rw [if_neg (by rw [o, o2]; decide)]
        rw [e] at k
        have la : l ≠ a := ne_of hL ha (by intro q; cases q)
        have hl : ∀ o, upd H a o l = some (.lst ([(n : Int), (m : Int), (k' : Int), (b : Int)].map V.int)) := fun o => by rw [upd_ne la]; exact hL
        obtain ⟨b0, n0, m0, k0, f0, g0, c0, e0⟩ := fst7_ex st
        rw [e0] at ha
        refine iteF ⟨_, rfl, a, C, dx, _, rfl, ha, T.cl, T.nBegun, fl7_len .., ?_⟩
        rw [p_begun]
        refine ⟨_, rfl, l, _, _, _, rfl, rfl, SqL.of (hl _), rfl, _, rfl, a, C, dx, _, rfl, upd_same, T.cl, T.nDays, fl7_len .., ?_⟩
        rw [p_days, upd_upd]
        refine ⟨_, rfl, l, _, _, _, rfl, rfl, SqL.of (hl _), rfl, _, rfl, a, C, dx, _, rfl, upd_same, T.cl, T.nLooks, fl7_len .., ?_⟩
        rw [p_looks, upd_upd]
        refine ⟨_, rfl, l, _, _, _, rfl, rfl, SqL.of (hl _), rfl, _, rfl, a, C, dx, _, rfl, upd_same, T.cl, T.nMisdeeds, fl7_len .., ?_⟩
        rw [p_misdeeds, upd_upd]
        refine ⟨_, rfl, l, _, _, _, rfl, rfl, SqL.of (hl _), rfl, _, rfl, a, C, dx, _, rfl, upd_same, T.cl, T.nFine, fl7_len .., ?_⟩
        rw [p_fine, upd_upd]
        refine ⟨_, rfl, a, C, dx, _, rfl, upd_same, T.cl, T.nGained, fl7_len .., ?_⟩
        rw [p_gained, upd_upd]
        refine ⟨_, rfl, a, C, dx, _, rfl, upd_same, T.cl, T.nCaught, fl7_len .., ?_⟩
        rw [p_caught, upd_upd]
        exact ⟨(by show 1 ≤ sizeLine; decide), fun p hp => PostA.put (st' := some ⟨n, m, k', b, 0, false⟩) k hA hp⟩
/-! ### play_day, answer_day -/
def spPlay (C : Addr) : Sp := fun vs H Q _ => ∃ (a dx : Addr) (s : Kp317.Season) (l d : Nat), vs = [.ref a, .int l, .int d] ∧ H a = some (.ins C dx (fst7 (some s))) ∧ s.over = false ∧ 0 < s.days ∧ l ≤ 1 ∧ d ≤ 1 ∧ l ≤ s.looks ∧ d ≤ s.misdeeds ∧ Q .non (upd H a (.ins C dx (fst7 (some (dayOf s l d)))))
theorem scPlay : FnScope ["season", "looked", "dared"] ["season", "looked", "dared"] (defScope sPlay) := ⟨rfl, rfl, rfl, by decide +kernel, rfl, by decide +kernel, by decide +kernel⟩
theorem int_eq_one {m : Nat} (c : decide (V.int (m : Int) = V.int 1) = true) : m = 1 := by
  have : V.int (m : Int) = V.int 1 := by simpa using c
  injection this with this
  omega
theorem int_ne_one {m : Nat} (c : ¬ decide (V.int (m : Int) = V.int 1) = true) : m ≠ 1 := by
  intro e
  subst e
  exact c (by simp)
theorem ok_play (D : Wdef K mg "play_day" sPlay ["season", "looked", "dared"]) (T : Txt K mg C) : Wcal P w K mg base "play_day" 1 (spPlay C) := by
  refine D.cal fun f fd F => ?_
  refine F.ok scPlay (fun vs H Q E h => ?_) (fun cdv A outer s H vs Q E hr h => ?_)
  · obtain ⟨a, dx, s, l, d, rfl, _⟩ := h
    rfl
  · obtain ⟨a, dx, z, l, d, rfl, ha, ov, h0, hl, hd, hl2, hd2, k⟩ := h
    refine ⟨_, pss_cons (ps_fldaug (pv 0) pe_int in_sub) (pss_cons (ps_fldaug (pv 0) (pv 1) in_sub) (pss_cons (ps_fldaug (pv 0) (pv 2) in_sub)
      (pss_one (ps_if (PW.pt (pw_and (pt_cmpR op_eq (pv 2) pe_int (nomark _)) (pw_and1 (pt_cmpR op_eq (pv 1) pe_int (nomark _)))))
        (pss_cons (ps_fldaug (pv 0) (pe_fld (pv 0) rfl) in_sub) (pss_cons (ps_fld (pv 0) pe_int rfl) (pss_one (ps_fld (pv 0) pe_int rfl))))
        (pss_one (ps_if (pt_cmpR op_eq (pv 2) pe_int (nomark _)) (pss_one (ps_fldaug (pv 0) pe_int in_add)) pss_nil)))))), ?_⟩
    refine ⟨_, rfl, a, C, dx, _, _, rfl, ha, T.cl, T.nDays, l_days .., _, _, rfl, rfl, dx, _, ha, fl7_len .., ?_⟩
    rw [show fst7 (some z) = fl7 _ _ _ _ _ _ _ from rfl, p_days]
    refine ⟨_, rfl, a, C, dx, _, _, rfl, upd_same, T.cl, T.nLooks, l_looks .., _, rfl, _, _, rfl, rfl, dx, _, upd_same, fl7_len .., ?_⟩
    rw [p_looks, upd_upd]
    refine ⟨_, rfl, a, C, dx, _, _, rfl, upd_same, T.cl, T.nMisdeeds, l_misdeeds .., _, rfl, _, _, rfl, rfl, dx, _, upd_same, fl7_len .., ?_⟩
    rw [p_misdeeds, upd_upd]
    have en : (nowDays z : Int) - 1 = ((nowDays z - 1 : Nat) : Int) := by
      unfold nowDays
      rw [ov]
      show ((z.days : Nat) : Int) - 1 = ((z.days - 1 : Nat) : Int)
      omega
    have el : (z.looks : Int) - l = ((z.looks - l : Nat) : Int) := by omega
    have ed : (z.misdeeds : Int) - d = ((z.misdeeds - d : Nat) : Int) := by omega
    refine ⟨_, rfl, rfl, _, rfl, ite2 (fun c => ?_) (fun c => ?_)⟩
    · have c := int_eq_one c
      refine ⟨_, rfl, rfl, _, rfl, ite2 (fun c1 => ?_) (fun c1 => ?_)⟩
      · have c1 := int_eq_one c1
        subst c c1
        refine ⟨_, rfl, a, C, dx, _, _, rfl, upd_same, T.cl, T.nGained, l_gained .., _, rfl, a, C, dx, _, _, rfl, upd_same, T.cl, T.nFine, l_fine .., _, _, rfl, rfl, dx, _, upd_same, fl7_len .., ?_⟩
        rw [p_gained, upd_upd]
        refine ⟨_, rfl, a, C, dx, _, rfl, upd_same, T.cl, T.nCaught, fl7_len .., ?_⟩
        rw [p_caught, upd_upd]
        refine ⟨_, rfl, a, C, dx, _, rfl, upd_same, T.cl, T.nDays, fl7_len .., ?_⟩
        rw [p_days, upd_upd]
        rw [el, ed]
        exact k
      · have c1 := int_ne_one c1
        have c2 : l = 0 := by omega
        subst c c2
        refine ⟨_, rfl, rfl, _, rfl, ?_⟩
        refine iteT ⟨_, rfl, a, C, dx, _, _, rfl, upd_same, T.cl, T.nGained, l_gained .., _, _, rfl, rfl, dx, _, upd_same, fl7_len .., ?_⟩
        rw [p_gained, upd_upd]
        rw [en, el, ed, ov]
        exact k
    · have c := int_ne_one c
      have c2 : d = 0 := by omega
      subst c2
      refine ⟨_, rfl, rfl, _, rfl, ?_⟩
      refine iteF ?_
      rw [en, el, ed]
      have e : fst7 (some (dayOf z l 0)) = fl7 true ((nowDays z - 1 : Nat) : Int) ((z.looks - l : Nat) : Int) ((z.misdeeds - 0 : Nat) : Int) (z.fine : Nat) z.gain (if z.over then 1 else 0) := by
        show fl7 true (nowDays (dayOf z l 0) : Nat) _ _ _ (z.gain + 0) (if (dayOf z l 0).over then 1 else 0) = _
        have e1 : (dayOf z l 0).over = false := by
          show decide (l = 1 ∧ 0 = 1) = false
          exact decide_eq_false (by omega)
        have e2 : nowDays (dayOf z l 0) = nowDays z - 1 := by
          show (if (dayOf z l 0).over then 0 else (nowDays z - 1)) = _
          rw [e1]; rfl
        rw [e1, e2, ov, Int.add_zero]
        rfl
      rw [e] at k
      exact k
theorem scADay : FnScope ["season", "numbers", "looked", "dared"] ["season", "numbers"] (defScope sADay) := ⟨rfl, rfl, rfl, by decide +kernel, rfl, by decide +kernel, by decide +kernel⟩
def rDay (ns : List Int) (st : Kp317.State) (x : Kp317.Call) : Prop := ∃ l d : Nat, ns = [(l : Int), (d : Int)] ∧ x = .day l d ∧ ∃ s, st = some s
theorem int_gt_one {m : Nat} (c : decide ((1 : Int) < (m : Int)) = true) : 1 < m := by have := of_decide_eq_true c; omega
theorem int_ngt_one {m : Nat} (c : ¬ decide ((1 : Int) < (m : Int)) = true) : ¬ 1 < m := fun q => c (decide_eq_true (by omega))
theorem ok_aday (D : Wdef K mg "answer_day" sADay ["season", "numbers"]) (T : Txt K mg C) (cP : Wcal P w K mg base "play_day" 1 (spPlay C)) : Wcal P w K mg base "answer_day" 2 (spA C rDay) := by
  refine D.cal fun f fd F => ?_
  refine F.ok scADay (fun vs H Q E h => ?_) (fun cdv A outer s H vs Q E hr h => ?_)
  · obtain ⟨a, l, ns, st, x, rfl, _⟩ := h
    rfl
  · obtain ⟨a, l, ns, st, x, rfl, hA, hG, hL, ⟨lk, d, rfl, rfl, z, rfl⟩, k⟩ := h
    obtain ⟨dx, ha⟩ := id hA
    obtain ⟨g1, g2, g3, g4, g5⟩ := good_now hG
    obtain ⟨t6, m6⟩ := T.mNoDays
    obtain ⟨t22, m22⟩ := T.mNotAllowed
    obtain ⟨t33, m33⟩ := T.mNoneLeft
    refine ⟨_, pss_cons (ps_set (i := 2) scADay.nd rfl (Or.inl rfl) (pe_ix ix_list (pv 1) pe_int (fun _ _ => rfl)))
      (pss_cons (ps_set (i := 3) scADay.nd rfl (Or.inl rfl) (pe_ix ix_list (pv 1) pe_int (fun _ _ => rfl)))
      (pss_cons (ps_if (pt_cmpR op_eq (pe_fld (pv 0) rfl) pe_int (nomark _)) (pss_one (ps_ret (pe_lst (pa_cons (pe_glob (v := .int (-6)) rfl m6 ⟨_, rfl⟩) pa_nil)))) pss_nil)
      (pss_cons (ps_if (PW.pt (pw_or (pt_cmpR op_gt (pv 2) pe_int (nomark _)) (pw_or1 (pt_cmpR op_gt (pv 3) pe_int (nomark _))))) (pss_one (ps_ret (pe_lst (pa_cons (pe_glob (v := .int (-22)) rfl m22 ⟨_, rfl⟩) pa_nil)))) pss_nil)
      (pss_cons (ps_if (PW.pt (pw_or (pt_cmpR op_gt (pv 2) (pe_fld (pv 0) rfl) (nomark _)) (pw_or1 (pt_cmpR op_gt (pv 3) (pe_fld (pv 0) rfl) (nomark _))))) (pss_one (ps_ret (pe_lst (pa_cons (pe_glob (v := .int (-33)) rfl m33 ⟨_, rfl⟩) pa_nil)))) pss_nil)
      (pss_cons (ps_expr (pe_cal cP hr (by decide) rfl (pa_cons (pv 0) (pa_cons (pv 2) (pa_cons (pv 3) pa_nil)))))
      (pss_one (ps_ret (pe_lst (pa_cons pe_int (pa_cons (pe_fld (pv 0) rfl) pa_nil)))))))))), ?_⟩
    rw [step_day] at k
    refine ⟨_, rfl, l, _, _, _, rfl, rfl, SqL.of hL, rfl, _, rfl, l, _, _, _, rfl, rfl, SqL.of hL, rfl, ?_⟩
    refine ⟨_, rfl, a, C, dx, _, _, rfl, ha, T.cl, T.nDays, l_days .., rfl, _, rfl, ite2 (fun c => ?_) (fun c => ?_)⟩
    · have c := int_eq_zero c
      rw [if_pos c] at k
      exact ⟨(by show 1 ≤ sizeLine; decide), fun p hp => PostA.new k hA hp⟩
    have c := int_ne_zero c
    rw [if_neg c] at k
    refine ⟨_, rfl, _, _, rfl, rfl, _, rfl, ite2 (fun c1 => ?_) (fun c1 => ?_)⟩
    · have c1 := int_gt_one c1
      rw [if_pos (.inl c1)] at k
      exact iteT ⟨(by show 1 ≤ sizeLine; decide), fun p hp => PostA.new k hA hp⟩
    have c1 := int_ngt_one c1
    refine ⟨_, rfl, _, _, rfl, rfl, _, rfl, ite2 (fun c2 => ?_) (fun c2 => ?_)⟩
    · have c2 := int_gt_one c2
      rw [if_pos (.inr c2)] at k
      exact ⟨(by show 1 ≤ sizeLine; decide), fun p hp => PostA.new k hA hp⟩
    have c2 := int_ngt_one c2
    rw [if_neg (by omega)] at k
    refine ⟨_, rfl, _, rfl, a, C, dx, _, _, rfl, ha, T.cl, T.nLooks, l_looks .., _, _, rfl, rfl, _, rfl, ite2 (fun c3 => ?_) (fun c3 => ?_)⟩
    · have c3 : (z.looks : Int) < lk := of_decide_eq_true c3
      rw [if_pos (.inl (by omega))] at k
      exact iteT ⟨(by show 1 ≤ sizeLine; decide), fun p hp => PostA.new k hA hp⟩
    have c3 : ¬ (z.looks : Int) < lk := fun q => c3 (decide_eq_true q)
    refine ⟨_, rfl, _, rfl, a, C, dx, _, _, rfl, ha, T.cl, T.nMisdeeds, l_misdeeds .., _, _, rfl, rfl, _, rfl, ite2 (fun c4 => ?_) (fun c4 => ?_)⟩
    · have c4 : (z.misdeeds : Int) < d := of_decide_eq_true c4
      rw [if_pos (.inr (by omega))] at k
      exact ⟨(by show 1 ≤ sizeLine; decide), fun p hp => PostA.new k hA hp⟩
    have c4 : ¬ (z.misdeeds : Int) < d := fun q => c4 (decide_eq_true q)
    rw [if_neg (by omega)] at k
    have ov : z.over = false := by
      cases o : z.over with
      | false => rfl
      | true => exact absurd (show nowDays z = 0 by unfold nowDays; rw [o]; rfl) c
    have hd0 : 0 < z.days := by
      have : nowDays z = z.days := by unfold nowDays; rw [ov]; rfl
      omega
    refine ⟨_, rfl, _, rfl, _, rfl, a, dx, z, lk, d, rfl, ha, ov, hd0, by omega, by omega, by omega, by omega, ?_⟩
    exact ⟨_, rfl, a, C, dx, _, _, rfl, upd_same, T.cl, T.nGained, l_gained .., (by show 2 ≤ sizeLine; decide), fun p hp => PostA.put (st' := some (dayOf z lk d)) k hA hp⟩
end
end Wl

set_option Elab.async false
set_option maxRecDepth 100000
set_option maxHeartbeats 4000000
set_option exponentiation.threshold 4000
namespace Wl
open PySem PySem.Spec PyProof.Rows L2
section
variable {P : Program} {w : World} {K : PySem.W.Frag} {mg : Str → Option Value} {base : Heap} {C : Addr}
theorem PostA.by {H H1 : Hp} {a p : Addr} {st : Kp317.State} {ans : List Int} {Q : VK} (k : PostA C H a st ans Q) (h : SnAt C H a st) (sm : Same H H1) (hp : H1 p = some (.lst (ans.map V.int))) (hn : H p = none) : Q (.ref p) H1 :=
  k H1 p (sn_same h sm) hp hn fun b o e _ => sm b o e
/-! ### parts_allowed -/
def okQ (q : Nat) : Bool := decide (1 ≤ q) && decide (q ≤ 1000)
theorem okQ_t {q : Nat} (h : okQ q = true) : 0 < q ∧ q ≤ 1000 := by
  unfold okQ at h
  simp only [Bool.and_eq_true, decide_eq_true_eq] at h
  omega
theorem okQ_f {q : Nat} (h : okQ q = false) : q = 0 ∨ 1000 < q := by
  unfold okQ at h
  simp only [Bool.and_eq_false_iff, decide_eq_false_iff_not] at h
  omega
def spPA : Sp := fun vs H Q _ => ∃ q : Nat, vs = [.int q] ∧ Q (.bl (okQ q)) H
theorem scPA : FnScope ["parts"] ["parts"] (defScope sPA) := ⟨rfl, rfl, rfl, by decide +kernel, rfl, by decide +kernel, by decide +kernel⟩
theorem ok_pa (D : Wdef K mg "parts_allowed" sPA ["parts"]) (T : Txt K mg C) : Wcal P w K mg base "parts_allowed" 1 spPA := by
  refine D.cal fun f fd F => ?_
  refine F.ok scPA (fun vs H Q E h => ?_) (fun cdv A outer s H vs Q E hr h => ?_)
  · obtain ⟨a, rfl, _⟩ := h
    rfl
  · obtain ⟨b, rfl, k⟩ := h
    obtain ⟨t9, m9⟩ := T.mParts
    refine ⟨_, pss_one (ps_ret (pe_chain op_le op_le pe_int (pv 0) (pe_glob (v := .int 1000) rfl m9 ⟨_, rfl⟩))), ?_⟩
    unfold okQ at k
    refine ⟨_, rfl, _, _, rfl, rfl, _, rfl, ite2 (fun c1 => ?_) (fun c1 => ?_)⟩
    · have c1 : 1 ≤ b := by have := of_decide_eq_true c1; omega
      rw [decide_eq_true c1, Bool.true_and] at k
      refine ⟨_, _, rfl, rfl, ?_⟩
      have e : decide ((b : Int) ≤ 1000) = decide (b ≤ 1000) := by rw [decide_eq_decide]; omega
      show Q (V.bl (decide ((b : Int) ≤ 1000))) H
      rw [e]
      exact k
    · have c1 : ¬ 1 ≤ b := fun q => c1 (decide_eq_true (by omega))
      rw [decide_eq_false c1, Bool.false_and] at k
      exact k
/-! ### chance_refusal -/
def crOf (n x l : Nat) : List Int := if n = 0 then [-6] else if 100 < x then [-22] else if 0 < x ∧ l = 0 then [-33] else []
def spCR (C : Addr) : Sp := fun vs H Q _ => ∃ (a : Addr) (s : Kp317.Season) (x l : Nat), vs = [.ref a, .int x, .int l] ∧ SnAt C H a (some s) ∧ ∀ p, H p = none → Q (.ref p) (upd H p (.lst ((crOf (nowDays s) x l).map V.int)))
theorem scCR : FnScope ["season", "chances", "left"] ["season", "chances", "left"] (defScope sCR) := ⟨rfl, rfl, rfl, by decide +kernel, rfl, by decide +kernel, by decide +kernel⟩
theorem ok_cr (D : Wdef K mg "chance_refusal" sCR ["season", "chances", "left"]) (T : Txt K mg C) : Wcal P w K mg base "chance_refusal" 1 (spCR C) := by
  refine D.cal fun f fd F => ?_
  refine F.ok scCR (fun vs H Q E h => ?_) (fun cdv A outer s H vs Q E hr h => ?_)
  · obtain ⟨a, s, x, l, rfl, _⟩ := h
    rfl
  · obtain ⟨a, z, x, l, rfl, ⟨dx, ha⟩, k⟩ := h
    obtain ⟨t6, m6⟩ := T.mNoDays
    obtain ⟨t22, m22⟩ := T.mNotAllowed
    obtain ⟨t33, m33⟩ := T.mNoneLeft
    obtain ⟨t1, m1⟩ := T.mChances
    refine ⟨_, pss_cons (ps_if (pt_cmpR op_eq (pe_fld (pv 0) rfl) pe_int (nomark _)) (pss_one (ps_ret (pe_lst (pa_cons (pe_glob (v := .int (-6)) rfl m6 ⟨_, rfl⟩) pa_nil)))) pss_nil)
      (pss_cons (ps_if (pt_cmpR op_gt (pv 1) (pe_glob (v := .int 100) rfl m1 ⟨_, rfl⟩) (nomark _)) (pss_one (ps_ret (pe_lst (pa_cons (pe_glob (v := .int (-22)) rfl m22 ⟨_, rfl⟩) pa_nil)))) pss_nil)
      (pss_cons (ps_if (PW.pt (pw_and (pt_cmpR op_gt (pv 1) pe_int (nomark _)) (pw_and1 (pt_cmpR op_eq (pv 2) pe_int (nomark _))))) (pss_one (ps_ret (pe_lst (pa_cons (pe_glob (v := .int (-33)) rfl m33 ⟨_, rfl⟩) pa_nil)))) pss_nil)
      (pss_one (ps_ret (pe_lst pa_nil))))), ?_⟩
    unfold crOf at k
    refine ⟨_, rfl, a, C, dx, _, _, rfl, ha, T.cl, T.nDays, l_days .., rfl, _, rfl, ite2 (fun c => ?_) (fun c => ?_)⟩
    · rw [if_pos (int_eq_zero c)] at k
      exact ⟨(by show 1 ≤ sizeLine; decide), fun p hp => k p hp⟩
    rw [if_neg (int_ne_zero c)] at k
    refine ⟨_, rfl, _, _, rfl, rfl, _, rfl, ite2 (fun c1 => ?_) (fun c1 => ?_)⟩
    · have c1 : 100 < x := by have := of_decide_eq_true c1; omega
      rw [if_pos c1] at k
      exact ⟨(by show 1 ≤ sizeLine; decide), fun p hp => k p hp⟩
    have c1 : ¬ 100 < x := fun q => c1 (decide_eq_true (by omega))
    rw [if_neg c1] at k
    refine ⟨_, rfl, _, _, rfl, rfl, _, rfl, ite2 (fun c2 => ?_) (fun c2 => ?_)⟩
    · have c2 : 0 < x := by have := of_decide_eq_true c2; omega
      refine ⟨_, rfl, rfl, _, rfl, ite2 (fun c3 => ?_) (fun c3 => ?_)⟩
      · rw [if_pos ⟨c2, int_eq_zero c3⟩] at k
        exact ⟨(by show 1 ≤ sizeLine; decide), fun p hp => k p hp⟩
      · rw [if_neg (fun q => int_ne_zero c3 q.2)] at k
        exact ⟨(by show 0 ≤ sizeLine; decide), fun p hp => k p hp⟩
    · have c2 : ¬ 0 < x := fun q => c2 (decide_eq_true (by omega))
      rw [if_neg (fun q => c2 q.1)] at k
      exact iteF ⟨(by show 0 ≤ sizeLine; decide), fun p hp => k p hp⟩
end
end Wl

set_option Elab.async false
set_option maxRecDepth 100000
set_option maxHeartbeats 4000000
set_option exponentiation.threshold 4000
namespace Wl
open PySem PySem.Spec PyProof.Rows L2
section
variable {P : Program} {w : World} {K : PySem.W.Frag} {mg : Str → Option Value} {base : Heap} {C : Addr}
theorem step_iflook (z : Kp317.Season) (x : Nat) : Kp317.step (some z) (.ifLook x) = (some z, if nowDays z = 0 then Kp317.say (-6) else if 100 < x then Kp317.say (-22) else if 0 < x ∧ z.looks = 0 then Kp317.say (-33) else Kp317.tell (Kp317.ifLook (nowDays z) z.looks z.misdeeds z.fine (Kp317.red x 100))) := rfl
theorem step_ifdare (z : Kp317.Season) (y : Nat) : Kp317.step (some z) (.ifDare y) = (some z, if nowDays z = 0 then Kp317.say (-6) else if 100 < y then Kp317.say (-22) else if 0 < y ∧ z.misdeeds = 0 then Kp317.say (-33) else if z.misdeeds = 0 then Kp317.tell (0, 1) else Kp317.tell (Kp317.ifDare (nowDays z) z.looks z.misdeeds z.fine (Kp317.red y 100))) := rfl
/-- what the refusal is, or that there is none -/
theorem cr_cases (n x l : Nat) : (∃ r : Int, crOf n x l = [r] ∧ ∀ a : Kp317.Ans, (if n = 0 then Kp317.say (-6) else if 100 < x then Kp317.say (-22) else if 0 < x ∧ l = 0 then Kp317.say (-33) else a) = Kp317.say r) ∨
    (crOf n x l = [] ∧ n ≠ 0 ∧ x ≤ 100 ∧ (l = 0 → x = 0) ∧ ∀ a : Kp317.Ans, (if n = 0 then Kp317.say (-6) else if 100 < x then Kp317.say (-22) else if 0 < x ∧ l = 0 then Kp317.say (-33) else a) = a) := by
  unfold crOf
  by_cases c : n = 0
  · exact .inl ⟨-6, by rw [if_pos c], fun a => by rw [if_pos c]⟩
  by_cases c1 : 100 < x
  · exact .inl ⟨-22, by rw [if_neg c, if_pos c1], fun a => by rw [if_neg c, if_pos c1]⟩
  by_cases c2 : 0 < x ∧ l = 0
  · exact .inl ⟨-33, by rw [if_neg c, if_neg c1, if_pos c2], fun a => by rw [if_neg c, if_neg c1, if_pos c2]⟩
  · exact .inr ⟨by rw [if_neg c, if_neg c1, if_neg c2], c, by omega, by omega, fun a => by rw [if_neg c, if_neg c1, if_neg c2]⟩
/-! ### answer_iflook, answer_ifdare -/
theorem scAIflook : FnScope ["season", "numbers", "refusal", "chance"] ["season", "numbers"] (defScope sAIflook) := ⟨rfl, rfl, rfl, by decide +kernel, rfl, by decide +kernel, by decide +kernel⟩
def rIflook (ns : List Int) (st : Kp317.State) (x : Kp317.Call) : Prop := ∃ b : Nat, ns = [(b : Int)] ∧ x = .ifLook b ∧ ∃ s, st = some s
theorem ok_aiflook (D : Wdef K mg "answer_iflook" sAIflook ["season", "numbers"]) (T : Txt K mg C) (cT : Wcal P w K mg base "told_fraction" 1 (spTF K)) (cR : Wcal P w K mg base "chance_refusal" 1 (spCR C)) (cI : Wcal P w K mg base "worth_if_looked" 4 (spIfL K)) : Wcal P w K mg base "answer_iflook" 5 (spA C rIflook) := by
  refine D.cal fun f fd F => ?_
  refine F.ok scAIflook (fun vs H Q E h => ?_) (fun cdv A outer s H vs Q E hr h => ?_)
  · obtain ⟨a, l, ns, st, x, rfl, _⟩ := h
    rfl
  · obtain ⟨a, l, ns, st, x, rfl, hA, hG, hL, ⟨b, rfl, rfl, z, rfl⟩, k⟩ := h
    obtain ⟨dx, ha⟩ := id hA
    obtain ⟨g1, g2, g3, g4, g5⟩ := good_now hG
    obtain ⟨t1, m1⟩ := T.mChances
    refine ⟨_, pss_cons (ps_set (i := 2) scAIflook.nd rfl (Or.inl rfl) (pe_cal cR hr (by decide) rfl (pa_cons (pv 0) (pa_cons (pe_ix ix_list (pv 1) pe_int (fun _ _ => rfl)) (pa_cons (pe_fld (pv 0) rfl) pa_nil)))))
      (pss_cons (ps_if (pt_cmpR (op_neD hr.units) (pv 2) (pe_lst pa_nil) (nomark _)) (pss_one (ps_ret (pv 2))) pss_nil)
      (pss_cons (ps_set (i := 3) scAIflook.nd rfl (Or.inl rfl) (pe_tup (pa_cons (pe_ix ix_list (pv 1) pe_int (fun _ _ => rfl)) (pa_cons (pe_glob (v := .int 100) rfl m1 ⟨_, rfl⟩) pa_nil))))
      (pss_one (ps_ret (pe_cal cT hr (by decide) rfl (pa_cons (pe_cal cI hr (by decide) rfl (pa_cons (pe_fld (pv 0) rfl) (pa_cons (pe_fld (pv 0) rfl) (pa_cons (pe_fld (pv 0) rfl) (pa_cons (pe_fld (pv 0) rfl) (pa_cons (pv 3) pa_nil)))))) pa_nil)))))), ?_⟩
    rw [step_iflook] at k
    refine ⟨_, rfl, _, rfl, l, _, _, _, rfl, rfl, SqL.of hL, rfl, _, rfl, a, C, dx, _, _, rfl, ha, T.cl, T.nLooks, l_looks .., a, z, b, z.looks, rfl, hA, fun p hp => ?_⟩
    have s1 := same_new (.lst ((crOf (nowDays z) b z.looks).map V.int)) hp
    refine ⟨_, rfl, (by show 0 ≤ sizeLine; decide), fun p2 hp2 => ?_⟩
    have s2 := s1.trans (same_new (.lst []) hp2)
    rcases cr_cases (nowDays z) b z.looks with ⟨r, er, ea⟩ | ⟨er, hn0, hx, hmx, ea⟩
    · rw [er] at hp2 s2 ⊢
      have hpp : p2 ≠ p := fun q => by rw [q, upd_same] at hp2; cases hp2
      have hpl : upd (upd H p (.lst ([r].map V.int))) p2 (.lst []) p = some (.lst ([r].map V.int)) := by rw [upd_ne (Ne.symm hpp), upd_same]
      rw [ea] at k
      exact ⟨.list [.int r], .list [], .lst (SqL.of hpl) (.cons (.int r) .nil), .lst (SqL.of upd_same) .nil, rfl, rfl, _, rfl, iteT ⟨_, rfl, PostA.by k hA s2 hpl hp⟩⟩
    · rw [er] at hp2 s2 ⊢
      have hpp : p2 ≠ p := fun q => by rw [q, upd_same] at hp2; cases hp2
      have hpl : upd (upd H p (.lst (([] : List Int).map V.int))) p2 (.lst []) p = some (.lst []) := by rw [upd_ne (Ne.symm hpp), upd_same]; rfl
      rw [ea] at k
      refine ⟨.list [], .list [], .lst (SqL.of hpl) .nil, .lst (SqL.of upd_same) .nil, rfl, rfl, _, rfl, iteF ?_⟩
      generalize upd (upd H p (.lst (([] : List Int).map V.int))) p2 (.lst []) = H2 at *
      refine ⟨_, rfl, l, _, _, _, rfl, rfl, SqL.of (s2 _ _ hL), rfl, (by show 2 ≤ sizeLine; decide), fun tc htc => ?_⟩
      have s3 := s2.trans (same_new (.tup [.int (b : Int), .int 100]) htc)
      have ha3 := s3 _ _ ha
      exact ⟨_, rfl, a, C, dx, _, _, rfl, ha3, T.cl, T.nDays, l_days .., _, rfl, a, C, dx, _, _, rfl, ha3, T.cl, T.nLooks, l_looks .., _, rfl, a, C, dx, _, _, rfl, ha3, T.cl, T.nMisdeeds, l_misdeeds .., _, rfl, a, C, dx, _, _, rfl, ha3, T.cl, T.nFine, l_fine .., _, rfl,
        nowDays z, z.looks, z.misdeeds, z.fine, b, tc, rfl, SqT.of upd_same, by omega, g1, g2, g4, g5, hx, hmx, fun t H4 s4 ht => ⟨t, _, _, rfl, ht, fun p hp => PostA.frac k hA (s3.trans s4) hp⟩⟩
theorem scAIfdare : FnScope ["season", "numbers", "refusal", "chance"] ["season", "numbers"] (defScope sAIfdare) := ⟨rfl, rfl, rfl, by decide +kernel, rfl, by decide +kernel, by decide +kernel⟩
def rIfdare (ns : List Int) (st : Kp317.State) (x : Kp317.Call) : Prop := ∃ b : Nat, ns = [(b : Int)] ∧ x = .ifDare b ∧ ∃ s, st = some s
theorem ok_aifdare (D : Wdef K mg "answer_ifdare" sAIfdare ["season", "numbers"]) (T : Txt K mg C) (cT : Wcal P w K mg base "told_fraction" 1 (spTF K)) (cR : Wcal P w K mg base "chance_refusal" 1 (spCR C)) (cI : Wcal P w K mg base "worth_if_dared" 4 (spIfD K)) : Wcal P w K mg base "answer_ifdare" 5 (spA C rIfdare) := by
  refine D.cal fun f fd F => ?_
  refine F.ok scAIfdare (fun vs H Q E h => ?_) (fun cdv A outer s H vs Q E hr h => ?_)
  · obtain ⟨a, l, ns, st, x, rfl, _⟩ := h
    rfl
  · obtain ⟨a, l, ns, st, x, rfl, hA, hG, hL, ⟨b, rfl, rfl, z, rfl⟩, k⟩ := h
    obtain ⟨dx, ha⟩ := id hA
    obtain ⟨g1, g2, g3, g4, g5⟩ := good_now hG
    obtain ⟨t1, m1⟩ := T.mChances
    refine ⟨_, pss_cons (ps_set (i := 2) scAIfdare.nd rfl (Or.inl rfl) (pe_cal cR hr (by decide) rfl (pa_cons (pv 0) (pa_cons (pe_ix ix_list (pv 1) pe_int (fun _ _ => rfl)) (pa_cons (pe_fld (pv 0) rfl) pa_nil)))))
      (pss_cons (ps_if (pt_cmpR (op_neD hr.units) (pv 2) (pe_lst pa_nil) (nomark _)) (pss_one (ps_ret (pv 2))) pss_nil)
      (pss_cons (ps_set (i := 3) scAIfdare.nd rfl (Or.inl rfl) (pe_tup (pa_cons (pe_ix ix_list (pv 1) pe_int (fun _ _ => rfl)) (pa_cons (pe_glob (v := .int 100) rfl m1 ⟨_, rfl⟩) pa_nil))))
      (pss_one (ps_ret (pe_cal cT hr (by decide) rfl (pa_cons (pe_cal cI hr (by decide) rfl (pa_cons (pe_fld (pv 0) rfl) (pa_cons (pe_fld (pv 0) rfl) (pa_cons (pe_fld (pv 0) rfl) (pa_cons (pe_fld (pv 0) rfl) (pa_cons (pv 3) pa_nil)))))) pa_nil)))))), ?_⟩
    have et : (if z.misdeeds = 0 then Kp317.tell (0, 1) else Kp317.tell (Kp317.ifDare (nowDays z) z.looks z.misdeeds z.fine (Kp317.red b 100))) = Kp317.tell (if z.misdeeds = 0 then (0, 1) else Kp317.ifDare (nowDays z) z.looks z.misdeeds z.fine (Kp317.red b 100)) := by split <;> rfl
    rw [step_ifdare, et] at k
    refine ⟨_, rfl, _, rfl, l, _, _, _, rfl, rfl, SqL.of hL, rfl, _, rfl, a, C, dx, _, _, rfl, ha, T.cl, T.nMisdeeds, l_misdeeds .., a, z, b, z.misdeeds, rfl, hA, fun p hp => ?_⟩
    have s1 := same_new (.lst ((crOf (nowDays z) b z.misdeeds).map V.int)) hp
    refine ⟨_, rfl, (by show 0 ≤ sizeLine; decide), fun p2 hp2 => ?_⟩
    have s2 := s1.trans (same_new (.lst []) hp2)
    rcases cr_cases (nowDays z) b z.misdeeds with ⟨r, er, ea⟩ | ⟨er, hn0, hx, hmx, ea⟩
    · rw [er] at hp2 s2 ⊢
      have hpp : p2 ≠ p := fun q => by rw [q, upd_same] at hp2; cases hp2
      have hpl : upd (upd H p (.lst ([r].map V.int))) p2 (.lst []) p = some (.lst ([r].map V.int)) := by rw [upd_ne (Ne.symm hpp), upd_same]
      rw [ea] at k
      exact ⟨.list [.int r], .list [], .lst (SqL.of hpl) (.cons (.int r) .nil), .lst (SqL.of upd_same) .nil, rfl, rfl, _, rfl, iteT ⟨_, rfl, PostA.by k hA s2 hpl hp⟩⟩
    · rw [er] at hp2 s2 ⊢
      have hpp : p2 ≠ p := fun q => by rw [q, upd_same] at hp2; cases hp2
      have hpl : upd (upd H p (.lst (([] : List Int).map V.int))) p2 (.lst []) p = some (.lst []) := by rw [upd_ne (Ne.symm hpp), upd_same]; rfl
      rw [ea] at k
      refine ⟨.list [], .list [], .lst (SqL.of hpl) .nil, .lst (SqL.of upd_same) .nil, rfl, rfl, _, rfl, iteF ?_⟩
      generalize upd (upd H p (.lst (([] : List Int).map V.int))) p2 (.lst []) = H2 at *
      refine ⟨_, rfl, l, _, _, _, rfl, rfl, SqL.of (s2 _ _ hL), rfl, (by show 2 ≤ sizeLine; decide), fun tc htc => ?_⟩
      have s3 := s2.trans (same_new (.tup [.int (b : Int), .int 100]) htc)
      have ha3 := s3 _ _ ha
      exact ⟨_, rfl, a, C, dx, _, _, rfl, ha3, T.cl, T.nDays, l_days .., _, rfl, a, C, dx, _, _, rfl, ha3, T.cl, T.nLooks, l_looks .., _, rfl, a, C, dx, _, _, rfl, ha3, T.cl, T.nMisdeeds, l_misdeeds .., _, rfl, a, C, dx, _, _, rfl, ha3, T.cl, T.nFine, l_fine .., _, rfl,
        nowDays z, z.looks, z.misdeeds, z.fine, b, tc, rfl, SqT.of upd_same, by omega, g1, g2, g4, g5, hx, fun t H4 s4 ht => ⟨t, _, _, rfl, ht, fun p hp => PostA.frac k hA (s3.trans s4) hp⟩⟩
/-! ### answer_caught, answer_done -/
theorem good9 {s : Kp317.Season} (h : Good (some s)) : 0 < s.fine ∧ s.fine ≤ 9 := by
  obtain ⟨h1, h2, h3, h4, h5⟩ := h
  exact ⟨h4, h5⟩
theorem scACaught : FnScope ["season", "numbers"] ["season", "numbers"] (defScope sACaught) := ⟨rfl, rfl, rfl, by decide +kernel, rfl, by decide +kernel, by decide +kernel⟩
def rCaught (_ : List Int) (st : Kp317.State) (x : Kp317.Call) : Prop := x = .caught ∧ ∃ s, st = some s
theorem ok_acaught (D : Wdef K mg "answer_caught" sACaught ["season", "numbers"]) (T : Txt K mg C) (cT : Wcal P w K mg base "told_fraction" 1 (spTF K)) (cW : Wcal P w K mg base "caught_chance" 14 (spCC K)) : Wcal P w K mg base "answer_caught" 15 (spA C rCaught) := by
  refine D.cal fun f fd F => ?_
  refine F.ok scACaught (fun vs H Q E h => ?_) (fun cdv A outer s H vs Q E hr h => ?_)
  · obtain ⟨a, l, ns, st, x, rfl, _⟩ := h
    rfl
  · obtain ⟨a, l, ns, st, x, rfl, hA, hG, hL, ⟨rfl, z, rfl⟩, k⟩ := h
    obtain ⟨dx, ha⟩ := id hA
    obtain ⟨g1, g2, g3, g4, g5⟩ := good_now hG
    refine ⟨_, pss_one (ps_ret (pe_cal cT hr (by decide) rfl (pa_cons (pe_cal cW hr (by decide) rfl (pa_cons (pe_fld (pv 0) rfl) (pa_cons (pe_fld (pv 0) rfl) (pa_cons (pe_fld (pv 0) rfl) (pa_cons (pe_fld (pv 0) rfl) pa_nil))))) pa_nil))), ?_⟩
    exact ⟨_, rfl, a, C, dx, _, _, rfl, ha, T.cl, T.nDays, l_days .., _, rfl, a, C, dx, _, _, rfl, ha, T.cl, T.nLooks, l_looks .., _, rfl, a, C, dx, _, _, rfl, ha, T.cl, T.nMisdeeds, l_misdeeds .., _, rfl, a, C, dx, _, _, rfl, ha, T.cl, T.nFine, l_fine ..,
      nowDays z, z.looks, z.misdeeds, z.fine, rfl, g1, g2, g3, g4, (good9 hG).2, fun t H1 sm ht => ⟨t, _, _, rfl, ht, fun p hp => PostA.frac k hA sm hp⟩⟩
theorem scADone : FnScope ["season", "numbers"] ["season", "numbers"] (defScope sADone) := ⟨rfl, rfl, rfl, by decide +kernel, rfl, by decide +kernel, by decide +kernel⟩
def rDone (_ : List Int) (st : Kp317.State) (x : Kp317.Call) : Prop := x = .done ∧ ∃ s, st = some s
theorem ok_adone (D : Wdef K mg "answer_done" sADone ["season", "numbers"]) (T : Txt K mg C) (cT : Wcal P w K mg base "told_fraction" 1 (spTF K)) (cW : Wcal P w K mg base "done_mean" 15 (spDone K)) : Wcal P w K mg base "answer_done" 16 (spA C rDone) := by
  refine D.cal fun f fd F => ?_
  refine F.ok scADone (fun vs H Q E h => ?_) (fun cdv A outer s H vs Q E hr h => ?_)
  · obtain ⟨a, l, ns, st, x, rfl, _⟩ := h
    rfl
  · obtain ⟨a, l, ns, st, x, rfl, hA, hG, hL, ⟨rfl, z, rfl⟩, k⟩ := h
    obtain ⟨dx, ha⟩ := id hA
    obtain ⟨g1, g2, g3, g4, g5⟩ := good_now hG
    refine ⟨_, pss_one (ps_ret (pe_cal cT hr (by decide) rfl (pa_cons (pe_cal cW hr (by decide) rfl (pa_cons (pe_fld (pv 0) rfl) (pa_cons (pe_fld (pv 0) rfl) (pa_cons (pe_fld (pv 0) rfl) (pa_cons (pe_fld (pv 0) rfl) pa_nil))))) pa_nil))), ?_⟩
    exact ⟨_, rfl, a, C, dx, _, _, rfl, ha, T.cl, T.nDays, l_days .., _, rfl, a, C, dx, _, _, rfl, ha, T.cl, T.nLooks, l_looks .., _, rfl, a, C, dx, _, _, rfl, ha, T.cl, T.nMisdeeds, l_misdeeds .., _, rfl, a, C, dx, _, _, rfl, ha, T.cl, T.nFine, l_fine ..,
      nowDays z, z.looks, z.misdeeds, z.fine, rfl, g1, g2, g3, g4, (good9 hG).2, fun t H1 sm ht => ⟨t, _, _, rfl, ht, fun p hp => PostA.frac k hA sm hp⟩⟩
/-! ### answer_looked, answer_spare -/
theorem scALooked : FnScope ["season", "numbers"] ["season", "numbers"] (defScope sALooked) := ⟨rfl, rfl, rfl, by decide +kernel, rfl, by decide +kernel, by decide +kernel⟩
def rLooked (ns : List Int) (st : Kp317.State) (x : Kp317.Call) : Prop := ∃ b : Nat, ns = [(b : Int)] ∧ x = .looked b ∧ ∃ s, st = some s
theorem ok_alooked (D : Wdef K mg "answer_looked" sALooked ["season", "numbers"]) (T : Txt K mg C) (cT : Wcal P w K mg base "told_fraction" 1 (spTF K)) (cW : Wcal P w K mg base "look_chance" 3 (spLook K)) : Wcal P w K mg base "answer_looked" 4 (spA C rLooked) := by
  refine D.cal fun f fd F => ?_
  refine F.ok scALooked (fun vs H Q E h => ?_) (fun cdv A outer s H vs Q E hr h => ?_)
  · obtain ⟨a, l, ns, st, x, rfl, _⟩ := h
    rfl
  · obtain ⟨a, l, ns, st, x, rfl, hA, hG, hL, ⟨b, rfl, rfl, z, rfl⟩, k⟩ := h
    obtain ⟨dx, ha⟩ := id hA
    obtain ⟨g1, g2, g3, g4, g5⟩ := good_now hG
    obtain ⟨t6, m6⟩ := T.mNotAllowed
    refine ⟨_, pss_cons (ps_if (pt_cmpR op_ge (pe_ix ix_list (pv 1) pe_int (fun _ _ => rfl)) (pe_fld (pv 0) rfl) (nomark _)) (pss_one (ps_ret (pe_lst (pa_cons (pe_glob (v := .int (-22)) rfl m6 ⟨_, rfl⟩) pa_nil)))) pss_nil)
      (pss_one (ps_ret (pe_cal cT hr (by decide) rfl (pa_cons (pe_cal cW hr (by decide) rfl (pa_cons (pe_fld (pv 0) rfl) (pa_cons (pe_fld (pv 0) rfl) (pa_cons (pe_fld (pv 0) rfl) pa_nil)))) pa_nil)))), ?_⟩
    have es : Kp317.step (some z) (.looked b) = (some z, if nowDays z ≤ b then Kp317.say (-22) else Kp317.tell (Kp317.lookedUp z.fine (nowDays z) z.looks b)) := rfl
    rw [es] at k
    refine ⟨_, rfl, l, _, _, _, rfl, rfl, SqL.of hL, rfl, _, rfl, a, C, dx, _, _, rfl, ha, T.cl, T.nDays, l_days .., _, _, rfl, rfl, _, rfl, ite2 (fun c => ?_) (fun c => ?_)⟩
    · have c : nowDays z ≤ b := by have := of_decide_eq_true c; omega
      rw [if_pos c] at k
      exact ⟨(by show 1 ≤ sizeLine; decide), fun p hp => PostA.new k hA hp⟩
    · have c : ¬ nowDays z ≤ b := fun q => c (decide_eq_true (by omega))
      rw [if_neg c, looked_R g4 b (nowDays z) z.looks (by omega), ← look_R _ _ g4] at k
      exact ⟨_, rfl, a, C, dx, _, _, rfl, ha, T.cl, T.nDays, l_days .., _, rfl, a, C, dx, _, _, rfl, ha, T.cl, T.nLooks, l_looks .., _, rfl, a, C, dx, _, _, rfl, ha, T.cl, T.nFine, l_fine ..,
        nowDays z, z.looks, z.fine, rfl, by omega, g1, g2, g4, g5, fun t H1 sm ht => ⟨t, _, _, rfl, ht, fun p hp => PostA.frac k hA sm hp⟩⟩
theorem scASpare : FnScope ["season", "numbers"] ["season", "numbers"] (defScope sASpare) := ⟨rfl, rfl, rfl, by decide +kernel, rfl, by decide +kernel, by decide +kernel⟩
def rSpare (ns : List Int) (st : Kp317.State) (x : Kp317.Call) : Prop := ∃ b : Nat, ns = [(b : Int)] ∧ x = .spare b ∧ ∃ s, st = some s
theorem ok_aspare (D : Wdef K mg "answer_spare" sASpare ["season", "numbers"]) (T : Txt K mg C) (cT : Wcal P w K mg base "told_fraction" 1 (spTF K)) (cW : Wcal P w K mg base "spare_chance" 3 (spSpare K)) : Wcal P w K mg base "answer_spare" 4 (spA C rSpare) := by
  refine D.cal fun f fd F => ?_
  refine F.ok scASpare (fun vs H Q E h => ?_) (fun cdv A outer s H vs Q E hr h => ?_)
  · obtain ⟨a, l, ns, st, x, rfl, _⟩ := h
    rfl
  · obtain ⟨a, l, ns, st, x, rfl, hA, hG, hL, ⟨b, rfl, rfl, z, rfl⟩, k⟩ := h
    obtain ⟨dx, ha⟩ := id hA
    obtain ⟨g1, g2, g3, g4, g5⟩ := good_now hG
    obtain ⟨t6, m6⟩ := T.mNotAllowed
    refine ⟨_, pss_cons (ps_if (pt_cmpR op_gt (pe_ix ix_list (pv 1) pe_int (fun _ _ => rfl)) (pe_fld (pv 0) rfl) (nomark _)) (pss_one (ps_ret (pe_lst (pa_cons (pe_glob (v := .int (-22)) rfl m6 ⟨_, rfl⟩) pa_nil)))) pss_nil)
      (pss_one (ps_ret (pe_cal cT hr (by decide) rfl (pa_cons (pe_cal cW hr (by decide) rfl (pa_cons (pe_fld (pv 0) rfl) (pa_cons (pe_fld (pv 0) rfl) (pa_cons (pe_fld (pv 0) rfl) (pa_cons (pe_ix ix_list (pv 1) pe_int (fun _ _ => rfl)) pa_nil))))) pa_nil)))), ?_⟩
    have es : Kp317.step (some z) (.spare b) = (some z, if z.looks < b then Kp317.say (-22) else Kp317.tell (Kp317.leftUp z.fine (nowDays z) z.looks b)) := rfl
    rw [es] at k
    refine ⟨_, rfl, l, _, _, _, rfl, rfl, SqL.of hL, rfl, _, rfl, a, C, dx, _, _, rfl, ha, T.cl, T.nLooks, l_looks .., _, _, rfl, rfl, _, rfl, ite2 (fun c => ?_) (fun c => ?_)⟩
    · have c : z.looks < b := by have := of_decide_eq_true c; omega
      rw [if_pos c] at k
      exact ⟨(by show 1 ≤ sizeLine; decide), fun p hp => PostA.new k hA hp⟩
    · have c : ¬ z.looks < b := fun q => c (decide_eq_true (by omega))
      rw [if_neg c] at k
      exact ⟨_, rfl, a, C, dx, _, _, rfl, ha, T.cl, T.nDays, l_days .., _, rfl, a, C, dx, _, _, rfl, ha, T.cl, T.nLooks, l_looks .., _, rfl, a, C, dx, _, _, rfl, ha, T.cl, T.nFine, l_fine .., _, rfl, l, _, _, _, rfl, rfl, SqL.of hL, rfl,
        nowDays z, z.looks, z.fine, b, rfl, g1, g2, g4, (good9 hG).2, by omega, fun t H1 sm ht => ⟨t, _, _, rfl, ht, fun p hp => PostA.frac k hA sm hp⟩⟩
/-! ### answer_looksfor, answer_finefor -/
theorem scALooksfor : FnScope ["season", "numbers"] ["season", "numbers"] (defScope sALooksfor) := ⟨rfl, rfl, rfl, by decide +kernel, rfl, by decide +kernel, by decide +kernel⟩
def rLooksfor (ns : List Int) (st : Kp317.State) (x : Kp317.Call) : Prop := ∃ b : Nat, ns = [(b : Int)] ∧ x = .looksFor b ∧ ∃ s, st = some s
theorem ok_alooksfor (D : Wdef K mg "answer_looksfor" sALooksfor ["season", "numbers"]) (T : Txt K mg C) (cP : Wcal P w K mg base "parts_allowed" 1 spPA) (cW : Wcal P w K mg base "looks_for" 4 (spLF K)) : Wcal P w K mg base "answer_looksfor" 5 (spA C rLooksfor) := by
  refine D.cal fun f fd F => ?_
  refine F.ok scALooksfor (fun vs H Q E h => ?_) (fun cdv A outer s H vs Q E hr h => ?_)
  · obtain ⟨a, l, ns, st, x, rfl, _⟩ := h
    rfl
  · obtain ⟨a, l, ns, st, x, rfl, hA, hG, hL, ⟨b, rfl, rfl, z, rfl⟩, k⟩ := h
    obtain ⟨dx, ha⟩ := id hA
    obtain ⟨g1, g2, g3, g4, g5⟩ := good_now hG
    obtain ⟨t6, m6⟩ := T.mNotAllowed
    refine ⟨_, pss_cons (ps_if (pt_not (pt_val (pe_cal cP hr (by decide) rfl (pa_cons (pe_ix ix_list (pv 1) pe_int (fun _ _ => rfl)) pa_nil)))) (pss_one (ps_ret (pe_lst (pa_cons (pe_glob (v := .int (-22)) rfl m6 ⟨_, rfl⟩) pa_nil)))) pss_nil)
      (pss_one (ps_ret (pe_lst (pa_cons (pe_cal cW hr (by decide) rfl (pa_cons (pe_fld (pv 0) rfl) (pa_cons (pe_fld (pv 0) rfl) (pa_cons (pe_fld (pv 0) rfl) (pa_cons (pe_tup (pa_cons pe_int (pa_cons (pe_ix ix_list (pv 1) pe_int (fun _ _ => rfl)) pa_nil))) pa_nil))))) pa_nil)))), ?_⟩
    have es : Kp317.step (some z) (.looksFor b) = (some z, if b = 0 ∨ 1000 < b then Kp317.say (-22) else Kp317.say (lfV (nowDays z) z.misdeeds z.fine b : Nat)) := rfl
    rw [es] at k
    refine ⟨_, rfl, l, _, _, _, rfl, rfl, SqL.of hL, rfl, b, rfl, _, rfl, ?_⟩
    cases o : okQ b with
    | false =>
      rw [if_pos (okQ_f o)] at k
      exact iteT ⟨(by show 1 ≤ sizeLine; decide), fun p hp => PostA.new k hA hp⟩
    | true =>
      obtain ⟨o1, o2⟩ := okQ_t o
      rw [if_neg (by omega)] at k
      refine iteF ⟨_, rfl, a, C, dx, _, _, rfl, ha, T.cl, T.nDays, l_days .., _, rfl, a, C, dx, _, _, rfl, ha, T.cl, T.nMisdeeds, l_misdeeds .., _, rfl, a, C, dx, _, _, rfl, ha, T.cl, T.nFine, l_fine .., _, rfl, l, _, _, _, rfl, rfl, SqL.of hL, rfl, (by show 2 ≤ sizeLine; decide), fun t ht => ?_⟩
      have s1 := same_new (.tup [.int 1, .int (b : Int)]) ht
      exact ⟨nowDays z, z.misdeeds, z.fine, b, t, rfl, SqT.of upd_same, g1, g4, g5, o1, o2, fun H2 s2 => ⟨(by show 1 ≤ sizeLine; decide), fun p hp => PostA.new (PostA.same k (s1.trans s2)) (sn_same hA (s1.trans s2)) hp⟩⟩
theorem scAFinefor : FnScope ["season", "numbers", "fine"] ["season", "numbers"] (defScope sAFinefor) := ⟨rfl, rfl, rfl, by decide +kernel, rfl, by decide +kernel, by decide +kernel⟩
def rFinefor (ns : List Int) (st : Kp317.State) (x : Kp317.Call) : Prop := ∃ b : Nat, ns = [(b : Int)] ∧ x = .fineFor b ∧ ∃ s, st = some s
theorem ff_pos {n m k q b : Nat} (h : ffV n m k q = some b) : b ≠ 0 := by
  intro e
  subst e
  have := List.mem_of_find?_eq_some h
  rw [ff_list] at this
  obtain ⟨i, _, e⟩ := List.mem_map.mp this
  omega
theorem ok_afinefor (D : Wdef K mg "answer_finefor" sAFinefor ["season", "numbers"]) (T : Txt K mg C) (cP : Wcal P w K mg base "parts_allowed" 1 spPA) (cW : Wcal P w K mg base "fine_for" 4 (spFF K)) : Wcal P w K mg base "answer_finefor" 5 (spA C rFinefor) := by
  refine D.cal fun f fd F => ?_
  refine F.ok scAFinefor (fun vs H Q E h => ?_) (fun cdv A outer s H vs Q E hr h => ?_)
  · obtain ⟨a, l, ns, st, x, rfl, _⟩ := h
    rfl
  · obtain ⟨a, l, ns, st, x, rfl, hA, hG, hL, ⟨b, rfl, rfl, z, rfl⟩, k⟩ := h
    obtain ⟨dx, ha⟩ := id hA
    obtain ⟨g1, g2, g3, g4, g5⟩ := good_now hG
    obtain ⟨t6, m6⟩ := T.mNotAllowed
    obtain ⟨t33, m33⟩ := T.mNoFine
    obtain ⟨t99, m99⟩ := T.mFineAsked
    refine ⟨_, pss_cons (ps_if (pt_not (pt_val (pe_cal cP hr (by decide) rfl (pa_cons (pe_ix ix_list (pv 1) pe_int (fun _ _ => rfl)) pa_nil)))) (pss_one (ps_ret (pe_lst (pa_cons (pe_glob (v := .int (-22)) rfl m6 ⟨_, rfl⟩) pa_nil)))) pss_nil)
      (pss_cons (ps_set (i := 2) scAFinefor.nd rfl (Or.inl rfl) (pe_cal cW hr (by decide) rfl (pa_cons (pe_fld (pv 0) rfl) (pa_cons (pe_fld (pv 0) rfl) (pa_cons (pe_fld (pv 0) rfl) (pa_cons (pe_glob (v := .int 99) rfl m99 ⟨_, rfl⟩) (pa_cons (pe_tup (pa_cons pe_int (pa_cons (pe_ix ix_list (pv 1) pe_int (fun _ _ => rfl)) pa_nil))) pa_nil)))))))
      (pss_one (ps_ret (pe_ifExp (pt_cmpR op_eq (pv 2) pe_int (nomark _)) (pe_lst (pa_cons (pe_glob (v := .int (-33)) rfl m33 ⟨_, rfl⟩) pa_nil)) (pe_lst (pa_cons (pv 2) pa_nil)))))), ?_⟩
    have es : Kp317.step (some z) (.fineFor b) = (some z, if b = 0 ∨ 1000 < b then Kp317.say (-22) else match ffV (nowDays z) z.looks z.misdeeds b with
        | some b => Kp317.say (b : Nat)
        | none => Kp317.say (-33)) := rfl
    rw [es] at k
    refine ⟨_, rfl, l, _, _, _, rfl, rfl, SqL.of hL, rfl, b, rfl, _, rfl, ?_⟩
    cases o : okQ b with
    | false =>
      rw [if_pos (okQ_f o)] at k
      exact iteT ⟨(by show 1 ≤ sizeLine; decide), fun p hp => PostA.new k hA hp⟩
    | true =>
      obtain ⟨o1, o2⟩ := okQ_t o
      rw [if_neg (by omega)] at k
      refine iteF ⟨_, rfl, a, C, dx, _, _, rfl, ha, T.cl, T.nDays, l_days .., _, rfl, a, C, dx, _, _, rfl, ha, T.cl, T.nLooks, l_looks .., _, rfl, a, C, dx, _, _, rfl, ha, T.cl, T.nMisdeeds, l_misdeeds .., _, rfl, l, _, _, _, rfl, rfl, SqL.of hL, rfl, (by show 2 ≤ sizeLine; decide), fun t ht => ?_⟩
      have s1 := same_new (.tup [.int 1, .int (b : Int)]) ht
      refine ⟨nowDays z, z.looks, z.misdeeds, b, t, rfl, SqT.of upd_same, g1, g2, o1, o2, fun H2 s2 => ?_⟩
      refine ⟨_, rfl, rfl, _, rfl, ?_⟩
      cases ev : ffV (nowDays z) z.looks z.misdeeds b with
      | none =>
        rw [ev] at k
        exact iteT ⟨(by show 1 ≤ sizeLine; decide), fun p hp => PostA.new (PostA.same k (s1.trans s2)) (sn_same hA (s1.trans s2)) hp⟩
      | some f =>
        rw [ev] at k
        have f0 := ff_pos ev
        have d : decide (V.int (((some f).getD 0 : Nat) : Int) = V.int 0) = false := decide_eq_false (fun q => by injection q with q; exact f0 (by show f = 0; have : ((f : Nat) : Int) = 0 := q; omega))
        rw [d]
        exact iteF ⟨_, rfl, (by show 1 ≤ sizeLine; decide), fun p hp => PostA.new (PostA.same k (s1.trans s2)) (sn_same hA (s1.trans s2)) hp⟩
end
end Wl

set_option Elab.async false
set_option maxRecDepth 100000
set_option maxHeartbeats 2000000
namespace Wl
open PySem PySem.Spec PyProof.Rows L2
/-! ### f(e, ..), f any expression that gives a def -/
def tCallE (X : Cx) (k : Nat) (tf : TE) (t : TA) : TE := fun σ H Q => tf σ H fun y H1 => ∃ (f : Addr) (sp : Sp), y = .ref f ∧ FnR X.prog X.w X.K X.mg X.base CX0 k f sp ∧ PySem.W.keepIn X.K (.ref f) = true ∧ t σ H1 fun vs H2 => sp vs H2 Q E0
theorem pe_callE {X : Cx} {k : Nat} {fe e : Expr} {es : List Expr} {tf : TE} {t : TA} {pos : Pos} (hf : PE X fe tf) (hr : Room k X.A) (ha : PA X (e :: es) t)
    (ht : eval (.Call fe (e :: es) [] pos) X.env = (do callWith pos (← eval fe X.env) [] (backTo pos (starEach (e :: es) X.env)) (backToKw pos (keywordEach [] X.env))) := by rfl)
    (he : starEach (e :: es) X.env = (false, eval e X.env) :: starEach es X.env := by rfl) (hpl : (backTo pos (starEach es X.env)).any (·.1) = false := by rfl) : PE X (.Call fe (e :: es) [] pos) (tCallE X k tf t) := by
  refine ⟨fun pins s σ H Q I h => ?_⟩
  refine Call_ (thn (hf.run pins s σ H _ I h) fun u s1 ⟨y, H1, I1, ry, f, sp, ey, F, kp, q⟩ => ?_) ht
  subst ey
  obtain rfl : u = Value.ref f := ry
  refine PySem.W.callWith_K (h₀ := X.base) I.ok.mod.kin kp (thn (ha.run pos pins s1 σ H1 _ I1 q) fun us s2 ⟨vs, H2, I2, r, q2⟩ => ⟨I2.kIn, ?_⟩) he hpl
  exact wpAny_call (run_fnR F hr pass0 I2 r q2)
section
variable {P : Program} {w : World} {K : PySem.W.Frag} {mg : Str → Option Value} {base : Heap} {C : Addr}
/-- the request of the answerer c -/
def rAny (c : Nat) (ns : List Int) (st : Kp317.State) (x : Kp317.Call) : Prop := Kp317Neutral.callOf [(c : Int) :: ns] = some x ∧ (∀ z ∈ ns, 0 ≤ z) ∧ (c ≠ 0 → ∃ s, st = some s)
/-- the table of the answerers: each keeps its promise -/
structure Disp (P : Program) (w : World) (K : PySem.W.Frag) (mg : Str → Option Value) (base : Heap) (C : Addr) (k : Nat) (ta : Addr) (fs : List Addr) : Prop where
  at_ : mg "ANSWERERS" = some (.ref ta)
  tup : ∀ H : Hp, SqT K H ta (fs.map V.ref)
  each : ∀ c : Nat, c < 17 → ∃ f, fs[c]? = some f ∧ PySem.W.keepIn K (.ref f) = true ∧ FnR P w K mg base CX0 k f (spA C (rAny c))
theorem scCall : FnScope ["season", "call", "numbers"] ["season", "call", "numbers"] (defScope sCall) := ⟨rfl, rfl, rfl, by decide +kernel, rfl, by decide +kernel, by decide +kernel⟩
def spCall (C : Addr) : Sp := fun vs H Q _ => ∃ (a l : Addr) (c : Nat) (ns : List Int) (st : Kp317.State) (x : Kp317.Call),
  vs = [.ref a, .int c, .ref l] ∧ c < 17 ∧ SnAt C H a st ∧ Good st ∧ H l = some (.lst (ns.map V.int)) ∧ Kp317Neutral.callOf [(c : Int) :: ns] = some x ∧ (∀ z ∈ ns, 0 ≤ z) ∧ PostA C H a (Kp317.step st x).1 (ansOf (Kp317.step st x).2) Q
theorem not_begin {c : Nat} {ns : List Int} {x : Kp317.Call} (hc : c ≠ 0) (h : Kp317Neutral.callOf [(c : Int) :: ns] = some x) : Kp317.step none x = (none, Kp317.say (-11)) := by
  cases x with
  | begin_ n m k b =>
    exfalso
    unfold Kp317Neutral.callOf at h
    split at h
    all_goals first
      | (rename_i e; injection e with e _; injection e with e _; omega)
      | (cases h)
  | _ => rfl
theorem ok_call {k : Nat} {ta : Addr} {fs : List Addr} (D : Wdef K mg "answer_call" sCall ["season", "call", "numbers"]) (T : Txt K mg C) (S : Disp P w K mg base C k ta fs) : Wcal P w K mg base "answer_call" (k + 1) (spCall C) := by
  refine D.cal fun f fd F => ?_
  refine F.ok scCall (fun vs H Q E h => ?_) (fun cdv A outer s H vs Q E hr h => ?_)
  · obtain ⟨a, l, c, ns, st, x, rfl, _⟩ := h
    rfl
  · obtain ⟨a, l, c, ns, st, x, rfl, hc, hA, hG, hL, hx, hz, kk⟩ := h
    obtain ⟨dx, ha⟩ := id hA
    obtain ⟨t0, m0⟩ := T.mBegin
    obtain ⟨t11, m11⟩ := T.mNotBegun
    refine ⟨_, pss_cons (ps_if (PW.pt (pw_and (pt_cmpR op_ne (pv 1) (pe_glob (v := .int 0) rfl m0 ⟨_, rfl⟩) (nomark _)) (pw_and1 (pt_not (pt_val (pe_fld (pv 0) rfl)))))) (pss_one (ps_ret (pe_lst (pa_cons (pe_glob (v := .int (-11)) rfl m11 ⟨_, rfl⟩) pa_nil)))) pss_nil)
      (pss_one (ps_ret (pe_callE (pe_ix ix_tup (pe_glob (v := .ref ta) rfl S.at_ rfl) (pv 1) (fun _ _ => rfl)) hr (pa_cons (pv 0) (pa_cons (pv 2) pa_nil))))), ?_⟩
    obtain ⟨f, hf, kf, Ff⟩ := S.each c hc
    refine ⟨_, rfl, rfl, _, rfl, ?_⟩
    by_cases c0 : c = 0
    · subst c0
      refine ite2 (fun q => absurd q (by simp)) (fun _ => iteF ?_)
      exact ⟨_, rfl, ta, _, _, _, rfl, rfl, S.tup H, atI_nat (by rw [List.getElem?_map, hf]; rfl), f, _, rfl, Ff, kf, _, rfl, _, rfl, a, l, ns, st, x, rfl, hA, hG, hL, ⟨hx, hz, fun q => absurd rfl q⟩, kk⟩
    · refine ite2 (fun _ => ?_) (fun q => absurd (show (!decide (V.int (c : Int) = V.int 0)) = true by
        rw [decide_eq_false (fun e => by injection e with e; omega)]; rfl) q)
      cases st with
      | none =>
        rw [not_begin c0 hx] at kk
        refine ⟨_, rfl, a, C, dx, _, _, rfl, ha, T.cl, T.nBegun, l_begun .., _, rfl, ?_⟩
        exact iteT ⟨(by show 1 ≤ sizeLine; decide), fun p hp => PostA.new kk hA hp⟩
      | some z =>
        refine ⟨_, rfl, a, C, dx, _, _, rfl, ha, T.cl, T.nBegun, l_begun .., _, rfl, ?_⟩
        exact iteF ⟨_, rfl, ta, _, _, _, rfl, rfl, S.tup H, atI_nat (by rw [List.getElem?_map, hf]; rfl), f, _, rfl, Ff, kf, _, rfl, _, rfl, a, l, ns, some z, x, rfl, hA, hG, hL, ⟨hx, hz, fun _ => ⟨z, rfl⟩⟩, kk⟩
end
end Wl

set_option Elab.async false
set_option maxRecDepth 100000
set_option maxHeartbeats 4000000
namespace Wl
open PySem PySem.Spec PyProof.Rows L2
theorem cut_eq (ns : List Int) (i n : Nat) (h : i + n ≤ ns.length) : cutV (ns.map V.int) (some (i : Int)) (some ((i + n : Nat) : Int)) = ((ns.drop i).take n).map V.int := by
  unfold cutV
  rw [HT.sIx_nat, HT.sIx_nat, List.length_map, Nat.min_eq_left h, Nat.min_eq_left (show i ≤ ns.length by omega), show i + n - i = n by omega, ← List.map_drop, ← List.map_take]
theorem drop_cons {ns : List Int} {i : Nat} (h : i < ns.length) : ∃ p r, ns.drop i = p :: r ∧ ns[i]? = some p ∧ r = ns.drop (i + 1) := by
  refine ⟨ns[i], ns.drop (i + 1), List.drop_eq_getElem_cons h, List.getElem?_eq_getElem h, rfl⟩
section
variable {P : Program} {w : World} {K : PySem.W.Frag} {mg : Str → Option Value} {base : Heap} {C : Addr}
theorem scAns : FnScope ["calls", "season", "told", "place", "call", "behind", "answer"] ["calls"] (defScope sAns) := ⟨rfl, rfl, rfl, by decide +kernel, rfl, by decide +kernel, by decide +kernel⟩
def spAll (K : PySem.W.Frag) : Sp := fun vs H Q _ => ∃ (a : Addr) (ns : List Int), vs = [.ref a] ∧ SqL K H a (ns.map V.int) ∧ PyKp317.answers_asked ns = true ∧ ns.length ≤ 300 ∧ (∀ z ∈ ns, 0 ≤ z) ∧ ∀ (H' : Hp) (p : Addr), H' p = some (.lst ((PyKp317.answers ns).map V.int)) → Q (.ref p) H'
/-- between two turns -/
structure Turn (K : PySem.W.Frag) (C : Addr) (H : Hp) (a sA tA : Addr) (ns : List Int) (σ : L2.St) (H' : Hp) : Prop where
  ex : ∃ (st : Kp317.State) (i g : Nat) (out : List Int) (cs : List (List (List Int))) (v4 v5 v6 : Option V),
    σ = [some (.ref a), some (.ref sA), some (.ref tA), some (.int (i : Nat)), v4, v5, v6] ∧ Same H H' ∧ SnAt C H' sA st ∧ Good st ∧ H' tA = some (.lst (out.map V.int)) ∧ i ≤ ns.length ∧
    PyFlat.calls PyKp317.shape g (ns.drop i) = some cs ∧ out ++ PyFlat.told (PyFlat.played Kp317Neutral.step st cs) = PyKp317.answers ns ∧ out.length ≤ 5 * i
theorem ok_ans {k : Nat} {fI fA tn : Addr} {fdI fdA : FuncData} (F : Fun K "answers" "answers" sAns fA fdA) (T : Txt K mg C) (M : Mk K C fI) (FI : Fun K "__init__" "Season.__init__" sInit fI fdI) (bI : Binds K fdI ["self"] [])
    (cA : Wcal P w K mg base "answer_call" (k + 1) (spCall C)) (ml : mg "len" = none) (mN : mg "NUMBERS_OF_CALLS" = some (.ref tn)) (hN : ∀ H : Hp, SqT K H tn (nums.map fun n => V.int (n : Nat))) : FnOk P w K mg base CX0 (k + 3) fA fdA ["calls"] (spAll K) := by
  have GI : FnOk P w K mg base CX0 1 fI fdI ["self"] (spInit C) := ok_init FI T
  refine F.ok scAns (fun vs H Q E h => ?_) (fun cdv A outer s H vs Q E hr h => ?_)
  · obtain ⟨a, ns, rfl, _⟩ := h
    rfl
  · obtain ⟨a, ns, rfl, hS, hask, hlen, hz, kk⟩ := h
    refine ⟨_, pss_cons (ps_set (i := 1) scAns.nd rfl (Or.inl rfl) (pe_make0 M GI (hr.mono (by omega)) rfl T.mgC bI .nil pass0))
      (pss_cons (ps_set (i := 2) scAns.nd rfl (Or.inl rfl) (pe_lst pa_nil))
      (pss_cons (ps_set (i := 3) scAns.nd rfl (Or.inl rfl) pe_int)
      (pss_cons (ps_while PassesOwn.never (pt_cmpR op_lt (pv 3) (pe_callB call_len_seq (by rfl) ml PySem.boot_len (pa_cons (pv 0) pa_nil)) (nomark _))
        (pss_cons (ps_set (i := 4) scAns.nd rfl (Or.inl rfl) (pe_ix ix_list (pv 0) (pv 3) (fun _ _ => rfl)))
        (pss_cons (ps_set (i := 5) scAns.nd rfl (Or.inl rfl) (pe_op op_add (pe_op op_add (pv 3) pe_int) (pe_ix ix_tup (pe_glob (v := .ref tn) rfl mN rfl) (pv 4) (fun _ _ => rfl))))
        (pss_cons (ps_set (i := 6) scAns.nd rfl (Or.inl rfl) (pe_cal cA hr (by omega) rfl (pa_cons (pv 1) (pa_cons (pv 4) (pa_cons (pe_slice sl_list (pv 0) (po_some (pe_op op_add (pv 3) pe_int)) (po_some (pv 5))) pa_nil)))))
        (pss_cons (ps_expr (pe_bm PySem.F.plainAttrs_list PySem.F.slot_list_append PySem.F.type_list_append mt_append (pv 2) (pa_cons (pe_callB call_len_seq (by rfl) ml PySem.boot_len (pa_cons (pv 6) pa_nil)) pa_nil)))
        (pss_cons (ps_expr (pe_bm PySem.F.plainAttrs_list PySem.F.slot_list_extend PySem.F.type_list_extend mt_extend (pv 2) (pa_cons (pv 6) pa_nil)))
        (pss_one (ps_set (i := 3) scAns.nd rfl (Or.inl rfl) (pv 5)))))))))
      (pss_one (ps_ret (pv 2)))))), ?_⟩
    -- season = Season()
    intro sA dx hsA hdx hne
    refine ⟨sA, dx, rfl, upd_same, fun H1 h1 kp1 => ⟨rfl, ?_⟩⟩
    have s1 : Same H H1 := fun b o e => by
      have b1 : b ≠ sA := ne_of_none e hsA
      have b2 : b ≠ dx := ne_of_none e hdx
      rw [kp1 b b1, upd_ne b1, upd_ne b2]
      exact e
    -- told = []
    refine ⟨Nat.zero_le _, fun tA htA => ?_⟩
    have nts : sA ≠ tA := ne_of_none h1 htA
    have htH : H tA = none := s1.free htA
    have s2 : Same H (upd H1 tA (.lst [])) := fun b o e => by
      rw [upd_ne (ne_of_none (s1 b o e) htA)]
      exact s1 b o e
    obtain ⟨cs, hcs⟩ := asked_calls hask
    refine while_by (fun σ H' => Turn K C H a sA tA ns σ H') (fun σ _ => ns.length - slotN σ 3)
      ⟨none, 0, ns.length, [], cs, none, none, none, rfl, s2, ⟨dx, by rw [upd_ne nts]; exact h1⟩, trivial, upd_same, Nat.zero_le _, hcs, (answers_eq hcs).symm, Nat.zero_le _⟩ ?_ ?_
    · rintro σ H2 ⟨st, i, g, out, cs, v4, v5, v6, rfl, sm, hSn, hG, hT, hi, hc, hout, hol⟩
      have hS2 := sm.seq hS
      refine ⟨_, rfl, _, rfl, a, _, rfl, .inl hS2, _, _, rfl, rfl, _, rfl, ite2 (fun c => ?_) (fun c => ?_)⟩
      · have c : i < ns.length := by
          have := of_decide_eq_true c
          rw [List.length_map] at this
          omega
        obtain ⟨p, r, ed, ep, er⟩ := drop_cons c
        rw [ed] at hc
        obtain ⟨g', n, cs', c0, rfl, rfl, hc0, hn, hnr, rfl, hc'⟩ := calls_cons hc
        have hr' : r.length = ns.length - (i + 1) := by rw [er, List.length_drop]
        have htk : (r.take n).length = n := by rw [List.length_take]; omega
        obtain ⟨x, hx⟩ := callOf_some hc0 hn htk
        have ex1 : (i : Int) + 1 = ((i + 1 : Nat) : Int) := by omega
        have ex2 : (i : Int) + 1 + (n : Int) = ((i + 1 + n : Nat) : Int) := by omega
        -- call = calls[place]; behind = place + 1 + NUMBERS_OF_CALLS[call]
        refine ⟨_, rfl, _, rfl, a, _, _, _, rfl, rfl, hS2, atI_nat (j := i) (v := V.int (c0 : Int)) (by rw [List.getElem?_map, ep]; rfl), ?_⟩
        refine ⟨_, rfl, _, _, rfl, rfl, _, rfl, tn, _, _, _, rfl, rfl, hN H2, atI_nat (j := c0) (v := V.int (n : Nat)) (by rw [List.getElem?_map, hn]; rfl), _, _, rfl, rfl, ?_⟩
        -- answer = answer_call(season, call, calls[place + 1:behind])
        refine ⟨_, rfl, _, rfl, _, rfl, _, rfl, _, _, rfl, rfl, _, rfl, _, rfl, _, rfl, a, _, rfl, hS2, fun l hl => ?_⟩
        obtain ⟨ds, hs⟩ := hSn
        have hs1 : ∀ o, upd H2 l o sA = some (.ins C ds (fst7 st)) := fun o => by rw [upd_ne (ne_of_none hs hl)]; exact hs
        have ht1 : ∀ o, upd H2 l o tA = some (.lst (out.map V.int)) := fun o => by rw [upd_ne (ne_of_none hT hl)]; exact hT
        have ecut : cutV (ns.map V.int) (some ((i : Int) + 1)) (some ((i : Int) + 1 + (n : Int))) = (r.take n).map V.int := by
          rw [ex2, ex1, cut_eq ns (i + 1) n (by omega), er]
        refine ⟨sA, l, c0, r.take n, st, x, rfl, hc0, ⟨ds, hs1 _⟩, hG, by rw [upd_same]; exact congrArg (fun q => some (HO.lst q)) ecut, hx, ?_, fun H3 p hSn3 hp hpn keep => ?_⟩
        · intro z hz1
          refine hz z ?_
          have h1 : z ∈ r := List.mem_of_mem_take hz1
          rw [er] at h1
          exact List.mem_of_mem_drop h1
        have nst : tA ≠ sA := Ne.symm nts
        have hT3 : H3 tA = some (.lst (out.map V.int)) := keep tA _ (ht1 _) nst
        have hl0 : H l = none := sm.free hl
        have s3 : Same H H3 := fun b o e => by
          refine keep b o ?_ (ne_of_none e hsA)
          rw [upd_ne (ne_of_none e hl0)]
          exact sm b o e
        have npt : p ≠ tA := fun q => by rw [q, ht1] at hpn; cases hpn
        have hol2 : (out.map V.int).length = out.length := List.length_map ..
        have al := ans_len st x
        have alm : ((ansOf (Kp317.step st x).2).map V.int).length = (ansOf (Kp317.step st x).2).length := List.length_map ..
        have i300 : out.length ≤ 1500 := by omega
        have big : 100000 ≤ sizeLine := by decide
        -- told.append(len(answer)); told.extend(answer); place = behind
        refine ⟨_, rfl, .inl ⟨rfl, _, SqL.of hT3⟩, _, rfl, p, _, rfl, .inl (SqL.of hp), tA, _, _, rfl, rfl, hT3, by omega, ?_⟩
        refine ⟨_, rfl, .inl ⟨rfl, _, SqL.of upd_same⟩, _, rfl, tA, p, _, _, rfl, rfl, upd_same, by rw [upd_ne npt]; exact hp, by rw [List.length_append, List.length_singleton]; omega, ?_⟩
        obtain ⟨d3, hs3⟩ := hSn3
        refine ⟨_, rfl, ⟨(Kp317.step st x).1, i + 1 + n, g', out ++ ((ansOf (Kp317.step st x).2).length : Int) :: ansOf (Kp317.step st x).2, cs', some (.int (c0 : Int)), some (.int ((i + 1 + n : Nat) : Int)), some (.ref p), ?_, ?_, ⟨d3, ?_⟩, good_step hG x, ?_, by omega, ?_, ?_, ?_⟩, ?_⟩
        · rw [← ex2]
          rfl
        · intro b o e
          have nb : b ≠ tA := ne_of_none e htH
          rw [upd_ne nb, upd_ne nb]
          exact s3 b o e
        · rw [upd_ne nts, upd_ne nts]
          exact hs3
        · rw [upd_same]
          congr 2
          rw [alm, List.map_append, List.map_cons, List.append_assoc]
          rfl
        · rw [show i + 1 + n = (i + 1) + n from rfl, ← List.drop_drop, ← er]
          exact hc'
        · rw [← hout, told_cons cs' hx, List.append_assoc]
          rfl
        · rw [List.length_append, List.length_cons]
          omega
        · show ns.length - ((i : Int) + 1 + (n : Int)).toNat < ns.length - ((i : Nat) : Int).toNat
          omega
      · have c : i = ns.length := by
          have : ¬ ((i : Nat) : Int) < ((ns.map V.int).length : Nat) := fun q => c (decide_eq_true q)
          rw [List.length_map] at this
          omega
        subst c
        rw [List.drop_length] at hc
        have ec : cs = [] := by
          cases g <;> simp [PyFlat.calls] at hc <;> exact hc
        subst ec
        have eo : out = PyKp317.answers ns := by
          rw [← hout]
          simp [PyFlat.played, PyFlat.told]
        subst eo
        exact ⟨_, rfl, kk _ _ hT⟩
    · intro σ H Q Q' hq h
      obtain ⟨v, e, v1, e1, p, ys, e2, hs, i, j, ei, ej, z, ez, q⟩ := h
      exact ⟨v, e, v1, e1, p, ys, e2, hs, i, j, ei, ej, z, ez, hq _ _ q⟩
end
end Wl

set_option Elab.async false
set_option maxRecDepth 100000
set_option maxHeartbeats 4000000
namespace Wl
open PySem PySem.Spec PyProof.Rows L2
section
variable {P : Program} {w : World} {K : PySem.W.Frag} {mg : Str → Option Value} {base : Heap} {C : Addr}
/-! ### requests by their number -/
theorem nat_in {ns : List Int} (h : ∀ z ∈ ns, 0 ≤ z) {z : Int} (hz : z ∈ ns) : ((z.toNat : Nat) : Int) = z := by
  have := h z hz
  omega
theorem inv0 {ns : List Int} {st : Kp317.State} {x : Kp317.Call} (h : rAny 0 ns st x) : rBegin ns st x := by
  obtain ⟨hx, hz, _⟩ := h
  match ns, hx with
  | [a, b, c, d], hx =>
    injection hx with hx
    subst hx
    exact ⟨_, _, _, _, by rw [nat_in hz (z := a) (by simp), nat_in hz (z := b) (by simp), nat_in hz (z := c) (by simp), nat_in hz (z := d) (by simp)], rfl⟩
theorem inv1 {ns : List Int} {st : Kp317.State} {x : Kp317.Call} (h : rAny 1 ns st x) : rDay ns st x := by
  obtain ⟨hx, hz, hs⟩ := h
  match ns, hx with
  | [a, b], hx =>
    injection hx with hx
    subst hx
    exact ⟨_, _, by rw [nat_in hz (z := a) (by simp), nat_in hz (z := b) (by simp)], rfl, hs (by decide)⟩
theorem inv2 {ns : List Int} {st : Kp317.State} {x : Kp317.Call} (h : rAny 2 ns st x) : rGain ns st x := by
  obtain ⟨hx, hz, hs⟩ := h
  match ns, hx with
  | [], hx => injection hx with hx; subst hx; exact ⟨rfl, hs (by decide)⟩
theorem inv3 {ns : List Int} {st : Kp317.State} {x : Kp317.Call} (h : rAny 3 ns st x) : rLeft ns st x := by
  obtain ⟨hx, hz, hs⟩ := h
  match ns, hx with
  | [], hx => injection hx with hx; subst hx; exact ⟨rfl, hs (by decide)⟩
theorem inv4 {ns : List Int} {st : Kp317.State} {x : Kp317.Call} (h : rAny 4 ns st x) : rWorth ns st x := by
  obtain ⟨hx, hz, hs⟩ := h
  match ns, hx with
  | [], hx => injection hx with hx; subst hx; exact ⟨rfl, hs (by decide)⟩
theorem inv5 {ns : List Int} {st : Kp317.State} {x : Kp317.Call} (h : rAny 5 ns st x) : rLook ns st x := by
  obtain ⟨hx, hz, hs⟩ := h
  match ns, hx with
  | [], hx => injection hx with hx; subst hx; exact ⟨rfl, hs (by decide)⟩
theorem inv6 {ns : List Int} {st : Kp317.State} {x : Kp317.Call} (h : rAny 6 ns st x) : rDare ns st x := by
  obtain ⟨hx, hz, hs⟩ := h
  match ns, hx with
  | [], hx => injection hx with hx; subst hx; exact ⟨rfl, hs (by decide)⟩
theorem inv7 {ns : List Int} {st : Kp317.State} {x : Kp317.Call} (h : rAny 7 ns st x) : rWorthof ns st x := by
  obtain ⟨hx, hz, hs⟩ := h
  match ns, hx with
  | [a, b, c], hx =>
    injection hx with hx
    subst hx
    exact ⟨_, _, _, by rw [nat_in hz (z := a) (by simp), nat_in hz (z := b) (by simp), nat_in hz (z := c) (by simp)], rfl, hs (by decide)⟩
theorem inv8 {ns : List Int} {st : Kp317.State} {x : Kp317.Call} (h : rAny 8 ns st x) : rIffine ns st x := by
  obtain ⟨hx, hz, hs⟩ := h
  match ns, hx with
  | [a], hx =>
    injection hx with hx
    subst hx
    exact ⟨_, by rw [nat_in hz (z := a) (by simp)], rfl, hs (by decide)⟩
/-! ### the table -/
theorem spA_imp {R R' : List Int → Kp317.State → Kp317.Call → Prop} (h : ∀ ns st x, R ns st x → R' ns st x) (vs : List V) (H : Hp) (Q : VK) (E : XK) (k : spA C R vs H Q E) : spA C R' (vs ++ []) H Q E := by
  obtain ⟨a, l, ns, st, x, e, h1, h2, h3, h4, h5⟩ := k
  exact ⟨a, l, ns, st, x, by rw [List.append_nil]; exact e, h1, h2, h3, h _ _ _ h4, h5⟩
theorem Wcal.entry {x : Str} {j k : Nat} {f : Addr} {R R' : List Int → Kp317.State → Kp317.Call → Prop} (c : Wcal P w K mg base x j (spA C R')) (m : mg x = some (.ref f)) (hj : j ≤ k) (h : ∀ ns st x, R ns st x → R' ns st x) :
    PySem.W.keepIn K (.ref f) = true ∧ FnR P w K mg base CX0 k f (spA C R) := by
  obtain ⟨f', fd, ps, F, m', kp, b⟩ := c
  have e : f' = f := by
    have := m'.symm.trans m
    injection this with this
    injection this
  subst e
  exact ⟨kp, ((F.raw b .nil).mono hj).imp (spA_imp h)⟩
theorem wdef_mk {h : Heap} {x : Str} {st : Stmt} {ps : List Str} {f : Addr} {oc : Value} {od an : Option Addr} {sl : Array (Option Value)} {kV doc pm cdv ct : Value} (X : K.In h) (G : h.Ns mainGlobals mg)
    (a : PySem.W.nsIn K mainGlobals x = some (some (.ref f))) (l : K.lookup f = some ⟨oc, od, .func (PySem.W.fnOf x x (defArgs st) (defBody st) (defScope st) .none kV doc pm an cdv ct), sl⟩) (c : PySem.W.codeIn K cdv x = true) (k : PySem.W.keepIn K (.ref f) = true)
    (hb : ∀ (kV doc pm : Value) (an : Option Addr) (cdv ct : Value) (us : List Value), us.length = ps.length → bindArgs (PySem.W.fnOf x x (defArgs st) (defBody st) (defScope st) .none kV doc pm an cdv ct) ⟨us, []⟩ = pure (ps.zip us)) : Wdef K mg x st ps := by
  have F := fun_mk (st := st) l c k
  exact ⟨f, _, F, PySem.W.mg_of X G a, k, F.binds hb⟩
theorem tup_mk {ta : Addr} {xs : List V} {d : Option Addr} {its : Array Value} {n : Nat} {sl : Array (Option Value)} (l : K.lookup ta = some ⟨.type "tuple", d, .seq its n, sl⟩) (z : its.size ≤ sizeLine) (v : Vals xs its.toList) (H : Hp) : SqT K H ta xs :=
  .inr ⟨_, its, n, l, rfl, rfl, z, v⟩
theorem in_int {z lo hi : Int} (h : PySem.W.Codec.inInt lo hi z = true) : lo ≤ z := by
  unfold PySem.W.Codec.inInt at h
  simp only [Bool.and_eq_true, decide_eq_true_eq] at h
  exact h.1
end
end Wl

set_option Elab.async false
set_option maxRecDepth 100000
set_option maxHeartbeats 4000000
namespace Wl
open PySem PySem.Spec PyProof.Rows L2
theorem inv9 {ns : List Int} {st : Kp317.State} {x : Kp317.Call} (h : rAny 9 ns st x) : rIflook ns st x := by
  obtain ⟨hx, hz, hs⟩ := h
  match ns, hx with
  | [a], hx =>
    injection hx with hx
    subst hx
    exact ⟨_, by rw [nat_in hz (z := a) (by simp)], rfl, hs (by decide)⟩
theorem inv10 {ns : List Int} {st : Kp317.State} {x : Kp317.Call} (h : rAny 10 ns st x) : rIfdare ns st x := by
  obtain ⟨hx, hz, hs⟩ := h
  match ns, hx with
  | [a], hx =>
    injection hx with hx
    subst hx
    exact ⟨_, by rw [nat_in hz (z := a) (by simp)], rfl, hs (by decide)⟩
theorem inv13 {ns : List Int} {st : Kp317.State} {x : Kp317.Call} (h : rAny 13 ns st x) : rLooked ns st x := by
  obtain ⟨hx, hz, hs⟩ := h
  match ns, hx with
  | [a], hx =>
    injection hx with hx
    subst hx
    exact ⟨_, by rw [nat_in hz (z := a) (by simp)], rfl, hs (by decide)⟩
theorem inv14 {ns : List Int} {st : Kp317.State} {x : Kp317.Call} (h : rAny 14 ns st x) : rSpare ns st x := by
  obtain ⟨hx, hz, hs⟩ := h
  match ns, hx with
  | [a], hx =>
    injection hx with hx
    subst hx
    exact ⟨_, by rw [nat_in hz (z := a) (by simp)], rfl, hs (by decide)⟩
theorem inv15 {ns : List Int} {st : Kp317.State} {x : Kp317.Call} (h : rAny 15 ns st x) : rLooksfor ns st x := by
  obtain ⟨hx, hz, hs⟩ := h
  match ns, hx with
  | [a], hx =>
    injection hx with hx
    subst hx
    exact ⟨_, by rw [nat_in hz (z := a) (by simp)], rfl, hs (by decide)⟩
theorem inv16 {ns : List Int} {st : Kp317.State} {x : Kp317.Call} (h : rAny 16 ns st x) : rFinefor ns st x := by
  obtain ⟨hx, hz, hs⟩ := h
  match ns, hx with
  | [a], hx =>
    injection hx with hx
    subst hx
    exact ⟨_, by rw [nat_in hz (z := a) (by simp)], rfl, hs (by decide)⟩
theorem inv11 {ns : List Int} {st : Kp317.State} {x : Kp317.Call} (h : rAny 11 ns st x) : rCaught ns st x := by
  obtain ⟨hx, hz, hs⟩ := h
  match ns, hx with
  | [], hx => injection hx with hx; subst hx; exact ⟨rfl, hs (by decide)⟩
theorem inv12 {ns : List Int} {st : Kp317.State} {x : Kp317.Call} (h : rAny 12 ns st x) : rDone ns st x := by
  obtain ⟨hx, hz, hs⟩ := h
  match ns, hx with
  | [], hx => injection hx with hx; subst hx; exact ⟨rfl, hs (by decide)⟩
end Wl

set_option Elab.async false
set_option maxRecDepth 100000
set_option maxHeartbeats 4000000
namespace Wl
open PySem PySem.Spec PyProof.Rows L2
theorem all_mk {P : Program} {w : World} {K : PySem.W.Frag} {h : Heap} {mg : Str → Option Value} {fa C fI tn ta : Addr} (X : K.In h) (G : h.Ns mainGlobals mg) (hfa : mg "answers" = some (.ref fa))
    {f0 f1 f2 f3 f4 f5 f6 f7 f8 f9 f10 f11 f12 f13 f14 f15 f16 f17 f18 f19 f20 f21 f22 f23 f24 f25 f26 f27 f28 f29 f30 f31 f32 f33 f34 f35 f36 f37 f38 f39 f40 f41 f42 f43 : Addr} {od0 an0 od1 an1 od2 an2 od3 an3 od4 an4 od5 an5 od6 an6 od7 an7 od8 an8 od9 an9 od10 an10 od11 an11 od12 an12 od13 an13 od14 an14 od15 an15 od16 an16 od17 an17 od18 an18 od19 an19 od20 an20 od21 an21 od22 an22 od23 an23 od24 an24 od25 an25 od26 an26 od27 an27 od28 an28 od29 an29 od30 an30 od31 an31 od32 an32 od33 an33 od34 an34 od35 an35 od36 an36 od37 an37 od38 an38 od39 an39 od40 an40 od41 an41 od42 an42 od43 an43 : Option Addr} {sl0 sl1 sl2 sl3 sl4 sl5 sl6 sl7 sl8 sl9 sl10 sl11 sl12 sl13 sl14 sl15 sl16 sl17 sl18 sl19 sl20 sl21 sl22 sl23 sl24 sl25 sl26 sl27 sl28 sl29 sl30 sl31 sl32 sl33 sl34 sl35 sl36 sl37 sl38 sl39 sl40 sl41 sl42 sl43 : Array (Option Value)} {oc0 kV0 dc0 pm0 cd0 ct0 oc1 kV1 dc1 pm1 cd1 ct1 oc2 kV2 dc2 pm2 cd2 ct2 oc3 kV3 dc3 pm3 cd3 ct3 oc4 kV4 dc4 pm4 cd4 ct4 oc5 kV5 dc5 pm5 cd5 ct5 oc6 kV6 dc6 pm6 cd6 ct6 oc7 kV7 dc7 pm7 cd7 ct7 oc8 kV8 dc8 pm8 cd8 ct8 oc9 kV9 dc9 pm9 cd9 ct9 oc10 kV10 dc10 pm10 cd10 ct10 oc11 kV11 dc11 pm11 cd11 ct11 oc12 kV12 dc12 pm12 cd12 ct12 oc13 kV13 dc13 pm13 cd13 ct13 oc14 kV14 dc14 pm14 cd14 ct14 oc15 kV15 dc15 pm15 cd15 ct15 oc16 kV16 dc16 pm16 cd16 ct16 oc17 kV17 dc17 pm17 cd17 ct17 oc18 kV18 dc18 pm18 cd18 ct18 oc19 kV19 dc19 pm19 cd19 ct19 oc20 kV20 dc20 pm20 cd20 ct20 oc21 kV21 dc21 pm21 cd21 ct21 oc22 kV22 dc22 pm22 cd22 ct22 oc23 kV23 dc23 pm23 cd23 ct23 oc24 kV24 dc24 pm24 cd24 ct24 oc25 kV25 dc25 pm25 cd25 ct25 oc26 kV26 dc26 pm26 cd26 ct26 oc27 kV27 dc27 pm27 cd27 ct27 oc28 kV28 dc28 pm28 cd28 ct28 oc29 kV29 dc29 pm29 cd29 ct29 oc30 kV30 dc30 pm30 cd30 ct30 oc31 kV31 dc31 pm31 cd31 ct31 oc32 kV32 dc32 pm32 cd32 ct32 oc33 kV33 dc33 pm33 cd33 ct33 oc34 kV34 dc34 pm34 cd34 ct34 oc35 kV35 dc35 pm35 cd35 ct35 oc36 kV36 dc36 pm36 cd36 ct36 oc37 kV37 dc37 pm37 cd37 ct37 oc38 kV38 dc38 pm38 cd38 ct38 oc39 kV39 dc39 pm39 cd39 ct39 oc40 kV40 dc40 pm40 cd40 ct40 oc41 kV41 dc41 pm41 cd41 ct41 oc42 kV42 dc42 pm42 cd42 ct42 oc43 kV43 dc43 pm43 cd43 ct43 : Value} {odI anI dN dA : Option Addr} {slI slN slA : Array (Option Value)} {ocI kVI dcI pmI cdI ctI : Value} {itsN itsA : Array Value} {nN nA : Nat} {tZ : Addr} {dZ : Option Addr} {itsZ : Array Value} {nZ : Nat} {slZ : Array (Option Value)} {tY : Addr} {dY : Option Addr} {itsY : Array Value} {nY : Nat} {slY : Array (Option Value)} {t0 t1 t2 t3 t4 t5 t6 t7 t8 t9 t10 : Tok}
    (a0 : PySem.W.nsIn K mainGlobals "greatest_divisor" = some (some (.ref f0))) (l0 : K.lookup f0 = some ⟨oc0, od0, .func (PySem.W.fnOf "greatest_divisor" "greatest_divisor" (defArgs sGcd) (defBody sGcd) (defScope sGcd) .none kV0 dc0 pm0 an0 cd0 ct0), sl0⟩) (c0 : PySem.W.codeIn K cd0 "greatest_divisor" = true) (k0 : PySem.W.keepIn K (.ref f0) = true)
    (a1 : PySem.W.nsIn K mainGlobals "lowest" = some (some (.ref f1))) (l1 : K.lookup f1 = some ⟨oc1, od1, .func (PySem.W.fnOf "lowest" "lowest" (defArgs sLow) (defBody sLow) (defScope sLow) .none kV1 dc1 pm1 an1 cd1 ct1), sl1⟩) (c1 : PySem.W.codeIn K cd1 "lowest" = true) (k1 : PySem.W.keepIn K (.ref f1) = true)
    (a2 : PySem.W.nsIn K mainGlobals "less" = some (some (.ref f2))) (l2 : K.lookup f2 = some ⟨oc2, od2, .func (PySem.W.fnOf "less" "less" (defArgs sLess) (defBody sLess) (defScope sLess) .none kV2 dc2 pm2 an2 cd2 ct2), sl2⟩) (c2 : PySem.W.codeIn K cd2 "less" = true) (k2 : PySem.W.keepIn K (.ref f2) = true)
    (a3 : PySem.W.nsIn K mainGlobals "one_more" = some (some (.ref f3))) (l3 : K.lookup f3 = some ⟨oc3, od3, .func (PySem.W.fnOf "one_more" "one_more" (defArgs sOne) (defBody sOne) (defScope sOne) .none kV3 dc3 pm3 an3 cd3 ct3), sl3⟩) (c3 : PySem.W.codeIn K cd3 "one_more" = true) (k3 : PySem.W.keepIn K (.ref f3) = true)
    (a4 : PySem.W.nsIn K mainGlobals "mixed" = some (some (.ref f4))) (l4 : K.lookup f4 = some ⟨oc4, od4, .func (PySem.W.fnOf "mixed" "mixed" (defArgs sMix) (defBody sMix) (defScope sMix) .none kV4 dc4 pm4 an4 cd4 ct4), sl4⟩) (c4 : PySem.W.codeIn K cd4 "mixed" = true) (k4 : PySem.W.keepIn K (.ref f4) = true)
    (a5 : PySem.W.nsIn K mainGlobals "ways" = some (some (.ref f5))) (l5 : K.lookup f5 = some ⟨oc5, od5, .func (PySem.W.fnOf "ways" "ways" (defArgs sWays) (defBody sWays) (defScope sWays) .none kV5 dc5 pm5 an5 cd5 ct5), sl5⟩) (c5 : PySem.W.codeIn K cd5 "ways" = true) (k5 : PySem.W.keepIn K (.ref f5) = true)
    (a6 : PySem.W.nsIn K mainGlobals "weight" = some (some (.ref f6))) (l6 : K.lookup f6 = some ⟨oc6, od6, .func (PySem.W.fnOf "weight" "weight" (defArgs sWeight) (defBody sWeight) (defScope sWeight) .none kV6 dc6 pm6 an6 cd6 ct6), sl6⟩) (c6 : PySem.W.codeIn K cd6 "weight" = true) (k6 : PySem.W.keepIn K (.ref f6) = true)
    (a7 : PySem.W.nsIn K mainGlobals "weighed_worth" = some (some (.ref f7))) (l7 : K.lookup f7 = some ⟨oc7, od7, .func (PySem.W.fnOf "weighed_worth" "weighed_worth" (defArgs sWW) (defBody sWW) (defScope sWW) .none kV7 dc7 pm7 an7 cd7 ct7), sl7⟩) (c7 : PySem.W.codeIn K cd7 "weighed_worth" = true) (k7 : PySem.W.keepIn K (.ref f7) = true)
    (a8 : PySem.W.nsIn K mainGlobals "worth" = some (some (.ref f8))) (l8 : K.lookup f8 = some ⟨oc8, od8, .func (PySem.W.fnOf "worth" "worth" (defArgs sWorth) (defBody sWorth) (defScope sWorth) .none kV8 dc8 pm8 an8 cd8 ct8), sl8⟩) (c8 : PySem.W.codeIn K cd8 "worth" = true) (k8 : PySem.W.keepIn K (.ref f8) = true)
    (a9 : PySem.W.nsIn K mainGlobals "look_chance" = some (some (.ref f9))) (l9 : K.lookup f9 = some ⟨oc9, od9, .func (PySem.W.fnOf "look_chance" "look_chance" (defArgs sLook) (defBody sLook) (defScope sLook) .none kV9 dc9 pm9 an9 cd9 ct9), sl9⟩) (c9 : PySem.W.codeIn K cd9 "look_chance" = true) (k9 : PySem.W.keepIn K (.ref f9) = true)
    (a10 : PySem.W.nsIn K mainGlobals "dare_chance" = some (some (.ref f10))) (l10 : K.lookup f10 = some ⟨oc10, od10, .func (PySem.W.fnOf "dare_chance" "dare_chance" (defArgs sDare) (defBody sDare) (defScope sDare) .none kV10 dc10 pm10 an10 cd10 ct10), sl10⟩) (c10 : PySem.W.codeIn K cd10 "dare_chance" = true) (k10 : PySem.W.keepIn K (.ref f10) = true)
    (a11 : PySem.W.nsIn K mainGlobals "worth_if_looked" = some (some (.ref f11))) (l11 : K.lookup f11 = some ⟨oc11, od11, .func (PySem.W.fnOf "worth_if_looked" "worth_if_looked" (defArgs sIfL) (defBody sIfL) (defScope sIfL) .none kV11 dc11 pm11 an11 cd11 ct11), sl11⟩) (c11 : PySem.W.codeIn K cd11 "worth_if_looked" = true) (k11 : PySem.W.keepIn K (.ref f11) = true)
    (a12 : PySem.W.nsIn K mainGlobals "worth_if_dared" = some (some (.ref f12))) (l12 : K.lookup f12 = some ⟨oc12, od12, .func (PySem.W.fnOf "worth_if_dared" "worth_if_dared" (defArgs sIfD) (defBody sIfD) (defScope sIfD) .none kV12 dc12 pm12 an12 cd12 ct12), sl12⟩) (c12 : PySem.W.codeIn K cd12 "worth_if_dared" = true) (k12 : PySem.W.keepIn K (.ref f12) = true)
    (a13 : PySem.W.nsIn K mainGlobals "caught_from" = some (some (.ref f13))) (l13 : K.lookup f13 = some ⟨oc13, od13, .func (PySem.W.fnOf "caught_from" "caught_from" (defArgs sCF) (defBody sCF) (defScope sCF) .none kV13 dc13 pm13 an13 cd13 ct13), sl13⟩) (c13 : PySem.W.codeIn K cd13 "caught_from" = true) (k13 : PySem.W.keepIn K (.ref f13) = true)
    (a14 : PySem.W.nsIn K mainGlobals "caught_chance" = some (some (.ref f14))) (l14 : K.lookup f14 = some ⟨oc14, od14, .func (PySem.W.fnOf "caught_chance" "caught_chance" (defArgs sCC) (defBody sCC) (defScope sCC) .none kV14 dc14 pm14 an14 cd14 ct14), sl14⟩) (c14 : PySem.W.codeIn K cd14 "caught_chance" = true) (k14 : PySem.W.keepIn K (.ref f14) = true)
    (a15 : PySem.W.nsIn K mainGlobals "done_mean" = some (some (.ref f15))) (l15 : K.lookup f15 = some ⟨oc15, od15, .func (PySem.W.fnOf "done_mean" "done_mean" (defArgs sDone) (defBody sDone) (defScope sDone) .none kV15 dc15 pm15 an15 cd15 ct15), sl15⟩) (c15 : PySem.W.codeIn K cd15 "done_mean" = true) (k15 : PySem.W.keepIn K (.ref f15) = true)
    (a16 : PySem.W.nsIn K mainGlobals "spare_chance" = some (some (.ref f16))) (l16 : K.lookup f16 = some ⟨oc16, od16, .func (PySem.W.fnOf "spare_chance" "spare_chance" (defArgs sSpare) (defBody sSpare) (defScope sSpare) .none kV16 dc16 pm16 an16 cd16 ct16), sl16⟩) (c16 : PySem.W.codeIn K cd16 "spare_chance" = true) (k16 : PySem.W.keepIn K (.ref f16) = true)
    (a17 : PySem.W.nsIn K mainGlobals "looks_for" = some (some (.ref f17))) (l17 : K.lookup f17 = some ⟨oc17, od17, .func (PySem.W.fnOf "looks_for" "looks_for" (defArgs sLF) (defBody sLF) (defScope sLF) .none kV17 dc17 pm17 an17 cd17 ct17), sl17⟩) (c17 : PySem.W.codeIn K cd17 "looks_for" = true) (k17 : PySem.W.keepIn K (.ref f17) = true)
    (a18 : PySem.W.nsIn K mainGlobals "fine_for" = some (some (.ref f18))) (l18 : K.lookup f18 = some ⟨oc18, od18, .func (PySem.W.fnOf "fine_for" "fine_for" (defArgs sFF) (defBody sFF) (defScope sFF) .none kV18 dc18 pm18 an18 cd18 ct18), sl18⟩) (c18 : PySem.W.codeIn K cd18 "fine_for" = true) (k18 : PySem.W.keepIn K (.ref f18) = true)
    (a19 : PySem.W.nsIn K mainGlobals "season_allowed" = some (some (.ref f19))) (l19 : K.lookup f19 = some ⟨oc19, od19, .func (PySem.W.fnOf "season_allowed" "season_allowed" (defArgs sSA) (defBody sSA) (defScope sSA) .none kV19 dc19 pm19 an19 cd19 ct19), sl19⟩) (c19 : PySem.W.codeIn K cd19 "season_allowed" = true) (k19 : PySem.W.keepIn K (.ref f19) = true)
    (a20 : PySem.W.nsIn K mainGlobals "fine_allowed" = some (some (.ref f20))) (l20 : K.lookup f20 = some ⟨oc20, od20, .func (PySem.W.fnOf "fine_allowed" "fine_allowed" (defArgs sFA) (defBody sFA) (defScope sFA) .none kV20 dc20 pm20 an20 cd20 ct20), sl20⟩) (c20 : PySem.W.codeIn K cd20 "fine_allowed" = true) (k20 : PySem.W.keepIn K (.ref f20) = true)
    (a21 : PySem.W.nsIn K mainGlobals "parts_allowed" = some (some (.ref f21))) (l21 : K.lookup f21 = some ⟨oc21, od21, .func (PySem.W.fnOf "parts_allowed" "parts_allowed" (defArgs sPA) (defBody sPA) (defScope sPA) .none kV21 dc21 pm21 an21 cd21 ct21), sl21⟩) (c21 : PySem.W.codeIn K cd21 "parts_allowed" = true) (k21 : PySem.W.keepIn K (.ref f21) = true)
    (a22 : PySem.W.nsIn K mainGlobals "told_fraction" = some (some (.ref f22))) (l22 : K.lookup f22 = some ⟨oc22, od22, .func (PySem.W.fnOf "told_fraction" "told_fraction" (defArgs sTF) (defBody sTF) (defScope sTF) .none kV22 dc22 pm22 an22 cd22 ct22), sl22⟩) (c22 : PySem.W.codeIn K cd22 "told_fraction" = true) (k22 : PySem.W.keepIn K (.ref f22) = true)
    (a23 : PySem.W.nsIn K mainGlobals "answer_begin" = some (some (.ref f23))) (l23 : K.lookup f23 = some ⟨oc23, od23, .func (PySem.W.fnOf "answer_begin" "answer_begin" (defArgs sABegin) (defBody sABegin) (defScope sABegin) .none kV23 dc23 pm23 an23 cd23 ct23), sl23⟩) (c23 : PySem.W.codeIn K cd23 "answer_begin" = true) (k23 : PySem.W.keepIn K (.ref f23) = true)
    (a24 : PySem.W.nsIn K mainGlobals "play_day" = some (some (.ref f24))) (l24 : K.lookup f24 = some ⟨oc24, od24, .func (PySem.W.fnOf "play_day" "play_day" (defArgs sPlay) (defBody sPlay) (defScope sPlay) .none kV24 dc24 pm24 an24 cd24 ct24), sl24⟩) (c24 : PySem.W.codeIn K cd24 "play_day" = true) (k24 : PySem.W.keepIn K (.ref f24) = true)
    (a25 : PySem.W.nsIn K mainGlobals "answer_day" = some (some (.ref f25))) (l25 : K.lookup f25 = some ⟨oc25, od25, .func (PySem.W.fnOf "answer_day" "answer_day" (defArgs sADay) (defBody sADay) (defScope sADay) .none kV25 dc25 pm25 an25 cd25 ct25), sl25⟩) (c25 : PySem.W.codeIn K cd25 "answer_day" = true) (k25 : PySem.W.keepIn K (.ref f25) = true)
    (a26 : PySem.W.nsIn K mainGlobals "answer_gain" = some (some (.ref f26))) (l26 : K.lookup f26 = some ⟨oc26, od26, .func (PySem.W.fnOf "answer_gain" "answer_gain" (defArgs sGain) (defBody sGain) (defScope sGain) .none kV26 dc26 pm26 an26 cd26 ct26), sl26⟩) (c26 : PySem.W.codeIn K cd26 "answer_gain" = true) (k26 : PySem.W.keepIn K (.ref f26) = true)
    (a27 : PySem.W.nsIn K mainGlobals "answer_left" = some (some (.ref f27))) (l27 : K.lookup f27 = some ⟨oc27, od27, .func (PySem.W.fnOf "answer_left" "answer_left" (defArgs sLeft) (defBody sLeft) (defScope sLeft) .none kV27 dc27 pm27 an27 cd27 ct27), sl27⟩) (c27 : PySem.W.codeIn K cd27 "answer_left" = true) (k27 : PySem.W.keepIn K (.ref f27) = true)
    (a28 : PySem.W.nsIn K mainGlobals "answer_worth" = some (some (.ref f28))) (l28 : K.lookup f28 = some ⟨oc28, od28, .func (PySem.W.fnOf "answer_worth" "answer_worth" (defArgs sAWorth) (defBody sAWorth) (defScope sAWorth) .none kV28 dc28 pm28 an28 cd28 ct28), sl28⟩) (c28 : PySem.W.codeIn K cd28 "answer_worth" = true) (k28 : PySem.W.keepIn K (.ref f28) = true)
    (a29 : PySem.W.nsIn K mainGlobals "answer_look" = some (some (.ref f29))) (l29 : K.lookup f29 = some ⟨oc29, od29, .func (PySem.W.fnOf "answer_look" "answer_look" (defArgs sALook) (defBody sALook) (defScope sALook) .none kV29 dc29 pm29 an29 cd29 ct29), sl29⟩) (c29 : PySem.W.codeIn K cd29 "answer_look" = true) (k29 : PySem.W.keepIn K (.ref f29) = true)
    (a30 : PySem.W.nsIn K mainGlobals "answer_dare" = some (some (.ref f30))) (l30 : K.lookup f30 = some ⟨oc30, od30, .func (PySem.W.fnOf "answer_dare" "answer_dare" (defArgs sADare) (defBody sADare) (defScope sADare) .none kV30 dc30 pm30 an30 cd30 ct30), sl30⟩) (c30 : PySem.W.codeIn K cd30 "answer_dare" = true) (k30 : PySem.W.keepIn K (.ref f30) = true)
    (a31 : PySem.W.nsIn K mainGlobals "answer_worthof" = some (some (.ref f31))) (l31 : K.lookup f31 = some ⟨oc31, od31, .func (PySem.W.fnOf "answer_worthof" "answer_worthof" (defArgs sAWorthof) (defBody sAWorthof) (defScope sAWorthof) .none kV31 dc31 pm31 an31 cd31 ct31), sl31⟩) (c31 : PySem.W.codeIn K cd31 "answer_worthof" = true) (k31 : PySem.W.keepIn K (.ref f31) = true)
    (a32 : PySem.W.nsIn K mainGlobals "answer_iffine" = some (some (.ref f32))) (l32 : K.lookup f32 = some ⟨oc32, od32, .func (PySem.W.fnOf "answer_iffine" "answer_iffine" (defArgs sAIffine) (defBody sAIffine) (defScope sAIffine) .none kV32 dc32 pm32 an32 cd32 ct32), sl32⟩) (c32 : PySem.W.codeIn K cd32 "answer_iffine" = true) (k32 : PySem.W.keepIn K (.ref f32) = true)
    (a33 : PySem.W.nsIn K mainGlobals "chance_refusal" = some (some (.ref f33))) (l33 : K.lookup f33 = some ⟨oc33, od33, .func (PySem.W.fnOf "chance_refusal" "chance_refusal" (defArgs sCR) (defBody sCR) (defScope sCR) .none kV33 dc33 pm33 an33 cd33 ct33), sl33⟩) (c33 : PySem.W.codeIn K cd33 "chance_refusal" = true) (k33 : PySem.W.keepIn K (.ref f33) = true)
    (a34 : PySem.W.nsIn K mainGlobals "answer_iflook" = some (some (.ref f34))) (l34 : K.lookup f34 = some ⟨oc34, od34, .func (PySem.W.fnOf "answer_iflook" "answer_iflook" (defArgs sAIflook) (defBody sAIflook) (defScope sAIflook) .none kV34 dc34 pm34 an34 cd34 ct34), sl34⟩) (c34 : PySem.W.codeIn K cd34 "answer_iflook" = true) (k34 : PySem.W.keepIn K (.ref f34) = true)
    (a35 : PySem.W.nsIn K mainGlobals "answer_ifdare" = some (some (.ref f35))) (l35 : K.lookup f35 = some ⟨oc35, od35, .func (PySem.W.fnOf "answer_ifdare" "answer_ifdare" (defArgs sAIfdare) (defBody sAIfdare) (defScope sAIfdare) .none kV35 dc35 pm35 an35 cd35 ct35), sl35⟩) (c35 : PySem.W.codeIn K cd35 "answer_ifdare" = true) (k35 : PySem.W.keepIn K (.ref f35) = true)
    (a36 : PySem.W.nsIn K mainGlobals "answer_caught" = some (some (.ref f36))) (l36 : K.lookup f36 = some ⟨oc36, od36, .func (PySem.W.fnOf "answer_caught" "answer_caught" (defArgs sACaught) (defBody sACaught) (defScope sACaught) .none kV36 dc36 pm36 an36 cd36 ct36), sl36⟩) (c36 : PySem.W.codeIn K cd36 "answer_caught" = true) (k36 : PySem.W.keepIn K (.ref f36) = true)
    (a37 : PySem.W.nsIn K mainGlobals "answer_done" = some (some (.ref f37))) (l37 : K.lookup f37 = some ⟨oc37, od37, .func (PySem.W.fnOf "answer_done" "answer_done" (defArgs sADone) (defBody sADone) (defScope sADone) .none kV37 dc37 pm37 an37 cd37 ct37), sl37⟩) (c37 : PySem.W.codeIn K cd37 "answer_done" = true) (k37 : PySem.W.keepIn K (.ref f37) = true)
    (a38 : PySem.W.nsIn K mainGlobals "answer_looked" = some (some (.ref f38))) (l38 : K.lookup f38 = some ⟨oc38, od38, .func (PySem.W.fnOf "answer_looked" "answer_looked" (defArgs sALooked) (defBody sALooked) (defScope sALooked) .none kV38 dc38 pm38 an38 cd38 ct38), sl38⟩) (c38 : PySem.W.codeIn K cd38 "answer_looked" = true) (k38 : PySem.W.keepIn K (.ref f38) = true)
    (a39 : PySem.W.nsIn K mainGlobals "answer_spare" = some (some (.ref f39))) (l39 : K.lookup f39 = some ⟨oc39, od39, .func (PySem.W.fnOf "answer_spare" "answer_spare" (defArgs sASpare) (defBody sASpare) (defScope sASpare) .none kV39 dc39 pm39 an39 cd39 ct39), sl39⟩) (c39 : PySem.W.codeIn K cd39 "answer_spare" = true) (k39 : PySem.W.keepIn K (.ref f39) = true)
    (a40 : PySem.W.nsIn K mainGlobals "answer_looksfor" = some (some (.ref f40))) (l40 : K.lookup f40 = some ⟨oc40, od40, .func (PySem.W.fnOf "answer_looksfor" "answer_looksfor" (defArgs sALooksfor) (defBody sALooksfor) (defScope sALooksfor) .none kV40 dc40 pm40 an40 cd40 ct40), sl40⟩) (c40 : PySem.W.codeIn K cd40 "answer_looksfor" = true) (k40 : PySem.W.keepIn K (.ref f40) = true)
    (a41 : PySem.W.nsIn K mainGlobals "answer_finefor" = some (some (.ref f41))) (l41 : K.lookup f41 = some ⟨oc41, od41, .func (PySem.W.fnOf "answer_finefor" "answer_finefor" (defArgs sAFinefor) (defBody sAFinefor) (defScope sAFinefor) .none kV41 dc41 pm41 an41 cd41 ct41), sl41⟩) (c41 : PySem.W.codeIn K cd41 "answer_finefor" = true) (k41 : PySem.W.keepIn K (.ref f41) = true)
    (a42 : PySem.W.nsIn K mainGlobals "answer_call" = some (some (.ref f42))) (l42 : K.lookup f42 = some ⟨oc42, od42, .func (PySem.W.fnOf "answer_call" "answer_call" (defArgs sCall) (defBody sCall) (defScope sCall) .none kV42 dc42 pm42 an42 cd42 ct42), sl42⟩) (c42 : PySem.W.codeIn K cd42 "answer_call" = true) (k42 : PySem.W.keepIn K (.ref f42) = true)
    (a43 : PySem.W.nsIn K mainGlobals "answers" = some (some (.ref f43))) (l43 : K.lookup f43 = some ⟨oc43, od43, .func (PySem.W.fnOf "answers" "answers" (defArgs sAns) (defBody sAns) (defScope sAns) .none kV43 dc43 pm43 an43 cd43 ct43), sl43⟩) (c43 : PySem.W.codeIn K cd43 "answers" = true) (k43 : PySem.W.keepIn K (.ref f43) = true)
    (aC : PySem.W.nsIn K mainGlobals "Season" = some (some (.ref C)))
    (aI : PySem.W.findIn K (.ref C) "__init__" = some (some (.ref fI))) (iI : PySem.W.isFn K (.ref fI) = true) (lI : K.lookup fI = some ⟨ocI, odI, .func (PySem.W.fnOf "__init__" "Season.__init__" (defArgs sInit) (defBody sInit) (defScope sInit) .none kVI dcI pmI anI cdI ctI), slI⟩) (cI : PySem.W.codeIn K cdI "Season.__init__" = true) (kI : PySem.W.keepIn K (.ref fI) = true)
    (pg : PySem.W.plainGet K C Str.empty = true) (hd : PySem.W.hasDictIn K C = true) (po : PySem.W.plainOver K C = true) (sa : PySem.W.findIn K (.ref C) "__setattr__" = some (some (.builtin "object.__setattr__"))) (mk : PySem.W.makesIn K C = true) (kc : PySem.W.keepIn K (.ref C) = true)
    (n0 : PySem.W.findIn K (.ref C) "begun" = some none)
    (n1 : PySem.W.findIn K (.ref C) "days" = some none)
    (n2 : PySem.W.findIn K (.ref C) "looks" = some none)
    (n3 : PySem.W.findIn K (.ref C) "misdeeds" = some none)
    (n4 : PySem.W.findIn K (.ref C) "fine" = some none)
    (n5 : PySem.W.findIn K (.ref C) "gained" = some none)
    (n6 : PySem.W.findIn K (.ref C) "caught" = some none)
    (m0 : PySem.W.nsIn K mainGlobals "MOST_DAYS" = some (some (.int 8 t0)))
    (m1 : PySem.W.nsIn K mainGlobals "MOST_FINE" = some (some (.int 9 t1)))
    (m2 : PySem.W.nsIn K mainGlobals "NO_DAYS" = some (some (.int (-6) t2)))
    (m3 : PySem.W.nsIn K mainGlobals "NOT_BEGUN" = some (some (.int (-11) t3)))
    (m4 : PySem.W.nsIn K mainGlobals "NOT_ALLOWED" = some (some (.int (-22) t4)))
    (m5 : PySem.W.nsIn K mainGlobals "NONE_LEFT" = some (some (.int (-33) t5)))
    (m6 : PySem.W.nsIn K mainGlobals "BEGIN" = some (some (.int 0 t6)))
    (m7 : PySem.W.nsIn K mainGlobals "NO_FINE" = some (some (.int (-33) t7)))
    (m8 : PySem.W.nsIn K mainGlobals "MOST_FINE_ASKED" = some (some (.int 99 t8)))
    (m9 : PySem.W.nsIn K mainGlobals "MOST_CHANCES" = some (some (.int 100 t9)))
    (m10 : PySem.W.nsIn K mainGlobals "MOST_PARTS" = some (some (.int 1000 t10)))
    (u0 : PySem.W.nsIn K mainGlobals "abs" = some none)
    (u1 : PySem.W.nsIn K mainGlobals "range" = some none)
    (u2 : PySem.W.nsIn K mainGlobals "min" = some none)
    (u3 : PySem.W.nsIn K mainGlobals "len" = some none)
    (aZ : PySem.W.nsIn K mainGlobals "NOTHING" = some (some (.ref tZ))) (lZ : K.lookup tZ = some ⟨.type "tuple", dZ, .seq itsZ nZ, slZ⟩) (zZ : itsZ.size ≤ sizeLine) (vZ : Vals (vQ (0, 1)) itsZ.toList)
    (aY : PySem.W.nsIn K mainGlobals "CERTAIN" = some (some (.ref tY))) (lY : K.lookup tY = some ⟨.type "tuple", dY, .seq itsY nY, slY⟩) (zY : itsY.size ≤ sizeLine) (vY : Vals (vQ (1, 1)) itsY.toList)
    (aN : PySem.W.nsIn K mainGlobals "NUMBERS_OF_CALLS" = some (some (.ref tn))) (lN : K.lookup tn = some ⟨.type "tuple", dN, .seq itsN nN, slN⟩) (zN : itsN.size ≤ sizeLine) (vN : Vals (nums.map fun n => V.int (n : Nat)) itsN.toList)
    (aA : PySem.W.nsIn K mainGlobals "ANSWERERS" = some (some (.ref ta))) (lA : K.lookup ta = some ⟨.type "tuple", dA, .seq itsA nA, slA⟩) (zA : itsA.size ≤ sizeLine) (vA : Vals (([f23, f25, f26, f27, f28, f29, f30, f31, f32, f34, f35, f36, f37, f38, f39, f40, f41] : List Addr).map V.ref) itsA.toList) :
    ∃ fd : FuncData, (∀ (s : Shared) (us : List Value), us.length = (["calls"] : List Str).length → BindsTo s fd ⟨us, []⟩ ((["calls"] : List Str).zip us)) ∧ ∀ base : Heap, K.In base → base.Ns mainGlobals mg → FnOk P w K mg base CX0 19 fa fd ["calls"] (spAll K) := by
  have T : Txt K mg C := ⟨⟨pg, hd, po, sa⟩, n0, n1, n2, n3, n4, n5, n6, PySem.W.mg_of X G aC, ⟨_, PySem.W.mg_of X G m0⟩, ⟨_, PySem.W.mg_of X G m1⟩, ⟨_, PySem.W.mg_of X G m2⟩, ⟨_, PySem.W.mg_of X G m3⟩, ⟨_, PySem.W.mg_of X G m4⟩, ⟨_, PySem.W.mg_of X G m5⟩, ⟨_, PySem.W.mg_of X G m6⟩, ⟨_, PySem.W.mg_of X G m7⟩, ⟨_, PySem.W.mg_of X G m8⟩, ⟨_, PySem.W.mg_of X G m9⟩, ⟨_, PySem.W.mg_of X G m10⟩⟩
  have FI := fun_mk (st := sInit) lI cI kI
  have bI := FI.binds (ps := ["self"]) fun _ _ _ _ _ _ us hl => match us, hl with | [_], _ => rfl
  have q_abs : mg "abs" = none := PySem.W.mg_none_of X G u0
  have q_range : mg "range" = none := PySem.W.mg_none_of X G u1
  have q_min : mg "min" = none := PySem.W.mg_none_of X G u2
  have q_len : mg "len" = none := PySem.W.mg_none_of X G u3
  have d0 : Wdef K mg "greatest_divisor" sGcd ["first", "second"] := wdef_mk X G a0 l0 c0 k0 fun _ _ _ _ _ _ us hl => match us, hl with | [_, _], _ => rfl
  have d1 : Wdef K mg "lowest" sLow ["above", "below"] := wdef_mk X G a1 l1 c1 k1 fun _ _ _ _ _ _ us hl => match us, hl with | [_, _], _ => rfl
  have d2 : Wdef K mg "less" sLess ["first", "second"] := wdef_mk X G a2 l2 c2 k2 fun _ _ _ _ _ _ us hl => match us, hl with | [_, _], _ => rfl
  have d3 : Wdef K mg "one_more" sOne ["fraction"] := wdef_mk X G a3 l3 c3 k3 fun _ _ _ _ _ _ us hl => match us, hl with | [_], _ => rfl
  have d4 : Wdef K mg "mixed" sMix ["chance", "first", "second"] := wdef_mk X G a4 l4 c4 k4 fun _ _ _ _ _ _ us hl => match us, hl with | [_, _, _], _ => rfl
  have d5 : Wdef K mg "ways" sWays ["days", "picked"] := wdef_mk X G a5 l5 c5 k5 fun _ _ _ _ _ _ us hl => match us, hl with | [_, _], _ => rfl
  have d6 : Wdef K mg "weight" sWeight ["days", "looks", "fine"] := wdef_mk X G a6 l6 c6 k6 fun _ _ _ _ _ _ us hl => match us, hl with | [_, _, _], _ => rfl
  have d7 : Wdef K mg "weighed_worth" sWW ["days", "looks", "misdeeds"] := wdef_mk X G a7 l7 c7 k7 fun _ _ _ _ _ _ us hl => match us, hl with | [_, _, _], _ => rfl
  have d8 : Wdef K mg "worth" sWorth ["days", "looks", "misdeeds", "fine"] := wdef_mk X G a8 l8 c8 k8 fun _ _ _ _ _ _ us hl => match us, hl with | [_, _, _, _], _ => rfl
  have d9 : Wdef K mg "look_chance" sLook ["days", "looks", "fine"] := wdef_mk X G a9 l9 c9 k9 fun _ _ _ _ _ _ us hl => match us, hl with | [_, _, _], _ => rfl
  have d10 : Wdef K mg "dare_chance" sDare ["days", "looks", "misdeeds", "fine"] := wdef_mk X G a10 l10 c10 k10 fun _ _ _ _ _ _ us hl => match us, hl with | [_, _, _, _], _ => rfl
  have d11 : Wdef K mg "worth_if_looked" sIfL ["days", "looks", "misdeeds", "fine", "chance"] := wdef_mk X G a11 l11 c11 k11 fun _ _ _ _ _ _ us hl => match us, hl with | [_, _, _, _, _], _ => rfl
  have d12 : Wdef K mg "worth_if_dared" sIfD ["days", "looks", "misdeeds", "fine", "chance"] := wdef_mk X G a12 l12 c12 k12 fun _ _ _ _ _ _ us hl => match us, hl with | [_, _, _, _, _], _ => rfl
  have d13 : Wdef K mg "caught_from" sCF ["known", "days", "looks", "misdeeds", "fine"] := wdef_mk X G a13 l13 c13 k13 fun _ _ _ _ _ _ us hl => match us, hl with | [_, _, _, _, _], _ => rfl
  have d14 : Wdef K mg "caught_chance" sCC ["days", "looks", "misdeeds", "fine"] := wdef_mk X G a14 l14 c14 k14 fun _ _ _ _ _ _ us hl => match us, hl with | [_, _, _, _], _ => rfl
  have d15 : Wdef K mg "done_mean" sDone ["days", "looks", "misdeeds", "fine"] := wdef_mk X G a15 l15 c15 k15 fun _ _ _ _ _ _ us hl => match us, hl with | [_, _, _, _], _ => rfl
  have d16 : Wdef K mg "spare_chance" sSpare ["days", "looks", "fine", "spare"] := wdef_mk X G a16 l16 c16 k16 fun _ _ _ _ _ _ us hl => match us, hl with | [_, _, _, _], _ => rfl
  have d17 : Wdef K mg "looks_for" sLF ["days", "misdeeds", "fine", "bound"] := wdef_mk X G a17 l17 c17 k17 fun _ _ _ _ _ _ us hl => match us, hl with | [_, _, _, _], _ => rfl
  have d18 : Wdef K mg "fine_for" sFF ["days", "looks", "misdeeds", "most_fine", "bound"] := wdef_mk X G a18 l18 c18 k18 fun _ _ _ _ _ _ us hl => match us, hl with | [_, _, _, _, _], _ => rfl
  have d19 : Wdef K mg "season_allowed" sSA ["days", "looks", "misdeeds"] := wdef_mk X G a19 l19 c19 k19 fun _ _ _ _ _ _ us hl => match us, hl with | [_, _, _], _ => rfl
  have d20 : Wdef K mg "fine_allowed" sFA ["fine"] := wdef_mk X G a20 l20 c20 k20 fun _ _ _ _ _ _ us hl => match us, hl with | [_], _ => rfl
  have d21 : Wdef K mg "parts_allowed" sPA ["parts"] := wdef_mk X G a21 l21 c21 k21 fun _ _ _ _ _ _ us hl => match us, hl with | [_], _ => rfl
  have d22 : Wdef K mg "told_fraction" sTF ["fraction"] := wdef_mk X G a22 l22 c22 k22 fun _ _ _ _ _ _ us hl => match us, hl with | [_], _ => rfl
  have d23 : Wdef K mg "answer_begin" sABegin ["season", "numbers"] := wdef_mk X G a23 l23 c23 k23 fun _ _ _ _ _ _ us hl => match us, hl with | [_, _], _ => rfl
  have d24 : Wdef K mg "play_day" sPlay ["season", "looked", "dared"] := wdef_mk X G a24 l24 c24 k24 fun _ _ _ _ _ _ us hl => match us, hl with | [_, _, _], _ => rfl
  have d25 : Wdef K mg "answer_day" sADay ["season", "numbers"] := wdef_mk X G a25 l25 c25 k25 fun _ _ _ _ _ _ us hl => match us, hl with | [_, _], _ => rfl
  have d26 : Wdef K mg "answer_gain" sGain ["season", "numbers"] := wdef_mk X G a26 l26 c26 k26 fun _ _ _ _ _ _ us hl => match us, hl with | [_, _], _ => rfl
  have d27 : Wdef K mg "answer_left" sLeft ["season", "numbers"] := wdef_mk X G a27 l27 c27 k27 fun _ _ _ _ _ _ us hl => match us, hl with | [_, _], _ => rfl
  have d28 : Wdef K mg "answer_worth" sAWorth ["season", "numbers"] := wdef_mk X G a28 l28 c28 k28 fun _ _ _ _ _ _ us hl => match us, hl with | [_, _], _ => rfl
  have d29 : Wdef K mg "answer_look" sALook ["season", "numbers"] := wdef_mk X G a29 l29 c29 k29 fun _ _ _ _ _ _ us hl => match us, hl with | [_, _], _ => rfl
  have d30 : Wdef K mg "answer_dare" sADare ["season", "numbers"] := wdef_mk X G a30 l30 c30 k30 fun _ _ _ _ _ _ us hl => match us, hl with | [_, _], _ => rfl
  have d31 : Wdef K mg "answer_worthof" sAWorthof ["season", "numbers"] := wdef_mk X G a31 l31 c31 k31 fun _ _ _ _ _ _ us hl => match us, hl with | [_, _], _ => rfl
  have d32 : Wdef K mg "answer_iffine" sAIffine ["season", "numbers"] := wdef_mk X G a32 l32 c32 k32 fun _ _ _ _ _ _ us hl => match us, hl with | [_, _], _ => rfl
  have d33 : Wdef K mg "chance_refusal" sCR ["season", "chances", "left"] := wdef_mk X G a33 l33 c33 k33 fun _ _ _ _ _ _ us hl => match us, hl with | [_, _, _], _ => rfl
  have d34 : Wdef K mg "answer_iflook" sAIflook ["season", "numbers"] := wdef_mk X G a34 l34 c34 k34 fun _ _ _ _ _ _ us hl => match us, hl with | [_, _], _ => rfl
  have d35 : Wdef K mg "answer_ifdare" sAIfdare ["season", "numbers"] := wdef_mk X G a35 l35 c35 k35 fun _ _ _ _ _ _ us hl => match us, hl with | [_, _], _ => rfl
  have d36 : Wdef K mg "answer_caught" sACaught ["season", "numbers"] := wdef_mk X G a36 l36 c36 k36 fun _ _ _ _ _ _ us hl => match us, hl with | [_, _], _ => rfl
  have d37 : Wdef K mg "answer_done" sADone ["season", "numbers"] := wdef_mk X G a37 l37 c37 k37 fun _ _ _ _ _ _ us hl => match us, hl with | [_, _], _ => rfl
  have d38 : Wdef K mg "answer_looked" sALooked ["season", "numbers"] := wdef_mk X G a38 l38 c38 k38 fun _ _ _ _ _ _ us hl => match us, hl with | [_, _], _ => rfl
  have d39 : Wdef K mg "answer_spare" sASpare ["season", "numbers"] := wdef_mk X G a39 l39 c39 k39 fun _ _ _ _ _ _ us hl => match us, hl with | [_, _], _ => rfl
  have d40 : Wdef K mg "answer_looksfor" sALooksfor ["season", "numbers"] := wdef_mk X G a40 l40 c40 k40 fun _ _ _ _ _ _ us hl => match us, hl with | [_, _], _ => rfl
  have d41 : Wdef K mg "answer_finefor" sAFinefor ["season", "numbers"] := wdef_mk X G a41 l41 c41 k41 fun _ _ _ _ _ _ us hl => match us, hl with | [_, _], _ => rfl
  have d42 : Wdef K mg "answer_call" sCall ["season", "call", "numbers"] := wdef_mk X G a42 l42 c42 k42 fun _ _ _ _ _ _ us hl => match us, hl with | [_, _, _], _ => rfl
  have d43 : Wdef K mg "answers" sAns ["calls"] := wdef_mk X G a43 l43 c43 k43 fun _ _ _ _ _ _ us hl => match us, hl with | [_], _ => rfl
  have cZ : Wtup K mg "NOTHING" (vQ (0, 1)) := ⟨tZ, PySem.W.mg_of X G aZ, fun H => tup_mk lZ zZ vZ H⟩
  have cY : Wtup K mg "CERTAIN" (vQ (1, 1)) := ⟨tY, PySem.W.mg_of X G aY, fun H => tup_mk lY zY vY H⟩
  have hN := tup_mk lN zN vN
  have hA := tup_mk lA zA vA
  refine ⟨PySem.W.fnOf "answers" "answers" (defArgs sAns) (defBody sAns) (defScope sAns) .none kV43 dc43 pm43 an43 cd43 ct43, fun s us hu => match us, hu with | [_], _ => .of_eq rfl, fun base KB GB => ?_⟩
  have cG := ok_gcd (P := P) (w := w) (base := base) d0
  have cL := ok_low d1 cG q_abs
  have cLs := ok_less (P := P) (w := w) (base := base) d2
  have cOn := ok_one (P := P) (w := w) (base := base) d3
  have cMi := ok_mix d4 cL
  have cWa := ok_ways (P := P) (w := w) (base := base) d5 q_range
  have cWe := ok_weight d6 cWa q_range
  have cWW := ok_ww d7 cWa q_range q_min
  have cWo := ok_worth d8 cL cWW cWe
  have cLo := ok_look d9 cL cWe cZ
  have cDa := ok_dare d10 cL cWW cWe cZ cY
  have cIL := ok_ifl d11 cLs cOn cMi cWo cZ
  have cID := ok_ifd d12 cLs cOn cMi cWo cZ
  have cCF := ok_cf d13 cMi cLo cDa cZ cY 9
  have cCC := ok_cc d14 cCF
  have cDn := ok_done d15 cCC cWo cL
  have cSp := ok_spare d16 cWa cWe cL q_range
  have cLF := ok_lf d17 cLs cWo
  have cFF := ok_ff d18 cLs cWo q_range
  have cSA := ok_sa (P := P) (w := w) (base := base) d19 T
  have cFA := ok_fa (P := P) (w := w) (base := base) d20 T
  have cPA := ok_pa (P := P) (w := w) (base := base) d21 T
  have cTF := ok_tf (P := P) (w := w) (base := base) d22
  have cP := ok_play (P := P) (w := w) (base := base) d24 T
  have cCR := ok_cr (P := P) (w := w) (base := base) d33 T
  have e0 := (ok_abegin d23 T cSA cFA).entry (k := 16) (PySem.W.mg_of X G a23) (by decide) (fun _ _ _ => inv0)
  have e1 := (ok_aday d25 T cP).entry (k := 16) (PySem.W.mg_of X G a25) (by decide) (fun _ _ _ => inv1)
  have e2 := (ok_gain (P := P) (w := w) (base := base) d26 T).entry (k := 16) (PySem.W.mg_of X G a26) (by decide) (fun _ _ _ => inv2)
  have e3 := (ok_left (P := P) (w := w) (base := base) d27 T).entry (k := 16) (PySem.W.mg_of X G a27) (by decide) (fun _ _ _ => inv3)
  have e4 := (ok_aworth d28 T cTF cWo).entry (k := 16) (PySem.W.mg_of X G a28) (by decide) (fun _ _ _ => inv4)
  have e5 := (ok_alook d29 T cTF cLo).entry (k := 16) (PySem.W.mg_of X G a29) (by decide) (fun _ _ _ => inv5)
  have e6 := (ok_adare d30 T cTF cDa).entry (k := 16) (PySem.W.mg_of X G a30) (by decide) (fun _ _ _ => inv6)
  have e7 := (ok_aworthof d31 T cTF cWo cSA).entry (k := 16) (PySem.W.mg_of X G a31) (by decide) (fun _ _ _ => inv7)
  have e8 := (ok_aiffine d32 T cTF cWo cFA).entry (k := 16) (PySem.W.mg_of X G a32) (by decide) (fun _ _ _ => inv8)
  have e9 := (ok_aiflook d34 T cTF cCR cIL).entry (k := 16) (PySem.W.mg_of X G a34) (by decide) (fun _ _ _ => inv9)
  have e10 := (ok_aifdare d35 T cTF cCR cID).entry (k := 16) (PySem.W.mg_of X G a35) (by decide) (fun _ _ _ => inv10)
  have e11 := (ok_acaught d36 T cTF cCC).entry (k := 16) (PySem.W.mg_of X G a36) (by decide) (fun _ _ _ => inv11)
  have e12 := (ok_adone d37 T cTF cDn).entry (k := 16) (PySem.W.mg_of X G a37) (by decide) (fun _ _ _ => inv12)
  have e13 := (ok_alooked d38 T cTF cLo).entry (k := 16) (PySem.W.mg_of X G a38) (by decide) (fun _ _ _ => inv13)
  have e14 := (ok_aspare d39 T cTF cSp).entry (k := 16) (PySem.W.mg_of X G a39) (by decide) (fun _ _ _ => inv14)
  have e15 := (ok_alooksfor d40 T cPA cLF).entry (k := 16) (PySem.W.mg_of X G a40) (by decide) (fun _ _ _ => inv15)
  have e16 := (ok_afinefor d41 T cPA cFF).entry (k := 16) (PySem.W.mg_of X G a41) (by decide) (fun _ _ _ => inv16)
  have S : Disp P w K mg base C 16 ta [f23, f25, f26, f27, f28, f29, f30, f31, f32, f34, f35, f36, f37, f38, f39, f40, f41] := ⟨PySem.W.mg_of X G aA, hA, fun c hc => match c, hc with
    | 0, _ => ⟨_, rfl, e0⟩ | 1, _ => ⟨_, rfl, e1⟩ | 2, _ => ⟨_, rfl, e2⟩ | 3, _ => ⟨_, rfl, e3⟩ | 4, _ => ⟨_, rfl, e4⟩ | 5, _ => ⟨_, rfl, e5⟩ | 6, _ => ⟨_, rfl, e6⟩ | 7, _ => ⟨_, rfl, e7⟩ | 8, _ => ⟨_, rfl, e8⟩ | 9, _ => ⟨_, rfl, e9⟩ | 10, _ => ⟨_, rfl, e10⟩ | 11, _ => ⟨_, rfl, e11⟩ | 12, _ => ⟨_, rfl, e12⟩ | 13, _ => ⟨_, rfl, e13⟩ | 14, _ => ⟨_, rfl, e14⟩ | 15, _ => ⟨_, rfl, e15⟩ | 16, _ => ⟨_, rfl, e16⟩ | c + 17, h => absurd h (by omega)⟩
  have cA := ok_call d42 T S
  have e := hfa.symm.trans (PySem.W.mg_of X G a43)
  cases e
  exact ok_ans (fun_mk (st := sAns) l43 c43 k43) T ⟨mk, aI, iI, kc⟩ FI bI cA q_len (PySem.W.mg_of X G aN) hN

end Wl
open PySem PySem.W PyProof.Rows
set_option maxRecDepth 100000 in
set_option maxHeartbeats 0 in
theorem PySem.Challenge.cw_whentolook_s01_answers_holds : PySem.Challenge.rw_whentolook_s01_answers.Holds := by
  w_on; k_headS; (case hw => exact ⟨[.list [.int 2]], by decide +kernel, by decide +kernel⟩)
  k_fillS
  refine L2.walk_specK (r := PySem.Challenge.rw_whentolook_s01_answers) (k := 19) (CX := L2.CX0) (ps := ["calls"]) (sp := Wl.spAll) (by decide +kernel) rfl rfl ⟨rfl, by decide, by decide⟩ (fun w h Y => PySem.W.kIn_of Y) ?F ?S (fun _ _ _ _ z => z)
  case F =>
    intro w mg fa h Y KX G hmg
    refine' Wl.all_mk KX G hmg ?a0 ?l0 ?c0 ?k0 ?a1 ?l1 ?c1 ?k1 ?a2 ?l2 ?c2 ?k2 ?a3 ?l3 ?c3 ?k3 ?a4 ?l4 ?c4 ?k4 ?a5 ?l5 ?c5 ?k5 ?a6 ?l6 ?c6 ?k6 ?a7 ?l7 ?c7 ?k7 ?a8 ?l8 ?c8 ?k8 ?a9 ?l9 ?c9 ?k9 ?a10 ?l10 ?c10 ?k10 ?a11 ?l11 ?c11 ?k11 ?a12 ?l12 ?c12 ?k12 ?a13 ?l13 ?c13 ?k13 ?a14 ?l14 ?c14 ?k14 ?a15 ?l15 ?c15 ?k15 ?a16 ?l16 ?c16 ?k16 ?a17 ?l17 ?c17 ?k17 ?a18 ?l18 ?c18 ?k18 ?a19 ?l19 ?c19 ?k19 ?a20 ?l20 ?c20 ?k20 ?a21 ?l21 ?c21 ?k21 ?a22 ?l22 ?c22 ?k22 ?a23 ?l23 ?c23 ?k23 ?a24 ?l24 ?c24 ?k24 ?a25 ?l25 ?c25 ?k25 ?a26 ?l26 ?c26 ?k26 ?a27 ?l27 ?c27 ?k27 ?a28 ?l28 ?c28 ?k28 ?a29 ?l29 ?c29 ?k29 ?a30 ?l30 ?c30 ?k30 ?a31 ?l31 ?c31 ?k31 ?a32 ?l32 ?c32 ?k32 ?a33 ?l33 ?c33 ?k33 ?a34 ?l34 ?c34 ?k34 ?a35 ?l35 ?c35 ?k35 ?a36 ?l36 ?c36 ?k36 ?a37 ?l37 ?c37 ?k37 ?a38 ?l38 ?c38 ?k38 ?a39 ?l39 ?c39 ?k39 ?a40 ?l40 ?c40 ?k40 ?a41 ?l41 ?c41 ?k41 ?a42 ?l42 ?c42 ?k42 ?a43 ?l43 ?c43 ?k43 ?aC ?aI ?iI ?lI ?cI ?kI ?pg ?hd ?po ?sa ?mk ?kc ?n0 ?n1 ?n2 ?n3 ?n4 ?n5 ?n6 ?m0 ?m1 ?m2 ?m3 ?m4 ?m5 ?m6 ?m7 ?m8 ?m9 ?m10 ?u0 ?u1 ?u2 ?u3 ?aZ ?lZ ?zZ ?vZ ?aY ?lY ?zY ?vY ?aN ?lN ?zN ?vN ?aA ?lA ?zA ?vA
    (case a0 => k_is); (case l0 => k_is); (case c0 => k_is); (case k0 => k_is)
    (case a1 => k_is); (case l1 => k_is); (case c1 => k_is); (case k1 => k_is)
    (case a2 => k_is); (case l2 => k_is); (case c2 => k_is); (case k2 => k_is)
    (case a3 => k_is); (case l3 => k_is); (case c3 => k_is); (case k3 => k_is)
    (case a4 => k_is); (case l4 => k_is); (case c4 => k_is); (case k4 => k_is)
    (case a5 => k_is); (case l5 => k_is); (case c5 => k_is); (case k5 => k_is)
    (case a6 => k_is); (case l6 => k_is); (case c6 => k_is); (case k6 => k_is)
    (case a7 => k_is); (case l7 => k_is); (case c7 => k_is); (case k7 => k_is)
    (case a8 => k_is); (case l8 => k_is); (case c8 => k_is); (case k8 => k_is)
    (case a9 => k_is); (case l9 => k_is); (case c9 => k_is); (case k9 => k_is)
    (case a10 => k_is); (case l10 => k_is); (case c10 => k_is); (case k10 => k_is)
    (case a11 => k_is); (case l11 => k_is); (case c11 => k_is); (case k11 => k_is)
    (case a12 => k_is); (case l12 => k_is); (case c12 => k_is); (case k12 => k_is)
    (case a13 => k_is); (case l13 => k_is); (case c13 => k_is); (case k13 => k_is)
    (case a14 => k_is); (case l14 => k_is); (case c14 => k_is); (case k14 => k_is)
    (case a15 => k_is); (case l15 => k_is); (case c15 => k_is); (case k15 => k_is)
    (case a16 => k_is); (case l16 => k_is); (case c16 => k_is); (case k16 => k_is)
    (case a17 => k_is); (case l17 => k_is); (case c17 => k_is); (case k17 => k_is)
    (case a18 => k_is); (case l18 => k_is); (case c18 => k_is); (case k18 => k_is)
    (case a19 => k_is); (case l19 => k_is); (case c19 => k_is); (case k19 => k_is)
    (case a20 => k_is); (case l20 => k_is); (case c20 => k_is); (case k20 => k_is)
    (case a21 => k_is); (case l21 => k_is); (case c21 => k_is); (case k21 => k_is)
    (case a22 => k_is); (case l22 => k_is); (case c22 => k_is); (case k22 => k_is)
    (case a23 => k_is); (case l23 => k_is); (case c23 => k_is); (case k23 => k_is)
    (case a24 => k_is); (case l24 => k_is); (case c24 => k_is); (case k24 => k_is)
    (case a25 => k_is); (case l25 => k_is); (case c25 => k_is); (case k25 => k_is)
    (case a26 => k_is); (case l26 => k_is); (case c26 => k_is); (case k26 => k_is)
    (case a27 => k_is); (case l27 => k_is); (case c27 => k_is); (case k27 => k_is)
    (case a28 => k_is); (case l28 => k_is); (case c28 => k_is); (case k28 => k_is)
    (case a29 => k_is); (case l29 => k_is); (case c29 => k_is); (case k29 => k_is)
    (case a30 => k_is); (case l30 => k_is); (case c30 => k_is); (case k30 => k_is)
    (case a31 => k_is); (case l31 => k_is); (case c31 => k_is); (case k31 => k_is)
    (case a32 => k_is); (case l32 => k_is); (case c32 => k_is); (case k32 => k_is)
    (case a33 => k_is); (case l33 => k_is); (case c33 => k_is); (case k33 => k_is)
    (case a34 => k_is); (case l34 => k_is); (case c34 => k_is); (case k34 => k_is)
    (case a35 => k_is); (case l35 => k_is); (case c35 => k_is); (case k35 => k_is)
    (case a36 => k_is); (case l36 => k_is); (case c36 => k_is); (case k36 => k_is)
    (case a37 => k_is); (case l37 => k_is); (case c37 => k_is); (case k37 => k_is)
    (case a38 => k_is); (case l38 => k_is); (case c38 => k_is); (case k38 => k_is)
    (case a39 => k_is); (case l39 => k_is); (case c39 => k_is); (case k39 => k_is)
    (case a40 => k_is); (case l40 => k_is); (case c40 => k_is); (case k40 => k_is)
    (case a41 => k_is); (case l41 => k_is); (case c41 => k_is); (case k41 => k_is)
    (case a42 => k_is); (case l42 => k_is); (case c42 => k_is); (case k42 => k_is)
    (case a43 => k_is); (case l43 => k_is); (case c43 => k_is); (case k43 => k_is)
    (case aC => k_is); (case aI => k_is); (case iI => k_is); (case lI => k_is); (case cI => k_is); (case kI => k_is)
    (case pg => k_is); (case hd => k_is); (case po => k_is); (case sa => k_is); (case mk => k_is); (case kc => k_is)
    (case n0 => k_is); (case n1 => k_is); (case n2 => k_is); (case n3 => k_is); (case n4 => k_is); (case n5 => k_is); (case n6 => k_is)
    (case m0 => k_is); (case m1 => k_is); (case m2 => k_is); (case m3 => k_is); (case m4 => k_is); (case m5 => k_is); (case m6 => k_is); (case m7 => k_is); (case m8 => k_is); (case m9 => k_is); (case m10 => k_is)
    (case u0 => k_is); (case u1 => k_is); (case u2 => k_is); (case u3 => k_is)
    (case aZ => k_is); (case lZ => k_is); (case zZ => decide +kernel); (case vZ => exact .cons ⟨_, rfl⟩ (.cons ⟨_, rfl⟩ .nil)); (case aY => k_is); (case lY => k_is); (case zY => decide +kernel); (case vY => exact .cons ⟨_, rfl⟩ (.cons ⟨_, rfl⟩ .nil))
    (case aN => k_is); (case lN => k_is); (case zN => decide +kernel); (case vN => exact .cons ⟨_, rfl⟩ (.cons ⟨_, rfl⟩ (.cons ⟨_, rfl⟩ (.cons ⟨_, rfl⟩ (.cons ⟨_, rfl⟩ (.cons ⟨_, rfl⟩ (.cons ⟨_, rfl⟩ (.cons ⟨_, rfl⟩ (.cons ⟨_, rfl⟩ (.cons ⟨_, rfl⟩ (.cons ⟨_, rfl⟩ (.cons ⟨_, rfl⟩ (.cons ⟨_, rfl⟩ (.cons ⟨_, rfl⟩ (.cons ⟨_, rfl⟩ (.cons ⟨_, rfl⟩ (.cons ⟨_, rfl⟩ (.nil))))))))))))))))))
    (case aA => k_is); (case lA => k_is); (case zA => decide +kernel); (case vA => exact .cons rfl (.cons rfl (.cons rfl (.cons rfl (.cons rfl (.cons rfl (.cons rfl (.cons rfl (.cons rfl (.cons rfl (.cons rfl (.cons rfl (.cons rfl (.cons rfl (.cons rfl (.cons rfl (.cons rfl (.nil))))))))))))))))))
  case S =>
    intro K H xs a hO hwi hask hx
    cases hx with
    | cons h1 h2 =>
      cases h2
      cases h1 with
      | lst hs ha =>
        have e := L2.ints_dw a.1 _ ha
        subst e
        have q : ((Codec.inLen 0 300 a.1 && a.1.all (Codec.inInt 0 4294967295)) && true) = true := hwi
        rw [Bool.and_eq_true, Bool.and_eq_true] at q
        exact ⟨_, a.1, rfl, hs, hask, (Codec.inNat_iff.mp q.1.1).2, fun z hz => (Wl.in_int (List.all_eq_true.mp q.1.2 z hz)), fun H' p hp => .lst (L2.SqL.of hp) (L2.dw_ints _)⟩
