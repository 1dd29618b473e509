import PyProof.Rows.All
import Wide.All
import OpenK.AllK
import Wide.FinOn
import HandS.ForMost
import HandS.Wide
import HandS.Gcd
import HandS.SetFor
import HandS.Walk
import HandS.Style
import HandS.Conv
import HandS.IsInst
import HandS.Codes
import HandS.Defaults
import KE.KMathGC
import Flt.Len
import PySem.Challenge.RW_plandays_k28_products_of_polynomials
set_option Elab.async false
set_option linter.all false
set_option maxRecDepth 100000
namespace K28
open PySem
/-! ### binomials of any integer, and polynomials in them -/
def fct : Nat → Int
  | 0 => 1
  | j + 1 => ((j : Int) + 1) * fct j
def fl (n : Int) : Nat → Int
  | 0 => 1
  | j + 1 => fl n j * (n - j)
theorem fct_pos : ∀ j, 0 < fct j
  | 0 => by decide
  | j + 1 => by
    have := fct_pos j
    show 0 < ((j : Int) + 1) * fct j
    exact Int.mul_pos (by omega) this
theorem fl_head (n : Int) : ∀ j, fl (n + 1) (j + 1) = (n + 1) * fl n j
  | 0 => by show 1 * (n + 1 - ((0 : Nat) : Int)) = (n + 1) * 1; omega
  | j + 1 => by
    have ih := fl_head n j
    show fl (n + 1) (j + 1) * (n + 1 - ((j + 1 : Nat) : Int)) = (n + 1) * (fl n j * (n - j))
    rw [ih, show n + 1 - ((j + 1 : Nat) : Int) = n - (j : Int) by omega, Int.mul_assoc]
theorem fl_step (n : Int) (j : Nat) : fl (n + 1) (j + 1) = fl n (j + 1) + ((j : Int) + 1) * fl n j := by
  rw [fl_head]
  show (n + 1) * fl n j = fl n j * (n - j) + ((j : Int) + 1) * fl n j
  grind
theorem fct_dvd : ∀ (j : Nat) (n : Int), fct j ∣ fl n j
  | 0, n => Int.one_dvd _
  | j + 1, n => by
    have ih := fct_dvd j
    have h0 : fl 0 (j + 1) = 0 := by
      have := fl_head (-1) j
      rw [show (-1 : Int) + 1 = 0 by omega, Int.zero_mul] at this
      exact this
    have st : ∀ m : Int, fct (j + 1) ∣ ((j : Int) + 1) * fl m j := fun m => Int.mul_dvd_mul_left _ (ih m)
    have up : ∀ m : Nat, fct (j + 1) ∣ fl (m : Int) (j + 1) := by
      intro m
      induction m with
      | zero => rw [show ((0 : Nat) : Int) = 0 from rfl, h0]; exact Int.dvd_zero _
      | succ m im =>
        rw [show ((m + 1 : Nat) : Int) = (m : Int) + 1 by omega, fl_step]
        exact Int.dvd_add im (st _)
    have dn : ∀ m : Nat, fct (j + 1) ∣ fl (-(m : Int)) (j + 1) := by
      intro m
      induction m with
      | zero => rw [show -((0 : Nat) : Int) = 0 from rfl, h0]; exact Int.dvd_zero _
      | succ m im =>
        have h := fl_step (-((m + 1 : Nat) : Int)) j
        rw [show -((m + 1 : Nat) : Int) + 1 = -(m : Int) by omega] at h
        have e : fl (-((m + 1 : Nat) : Int)) (j + 1) = fl (-(m : Int)) (j + 1) - ((j : Int) + 1) * fl (-((m + 1 : Nat) : Int)) j := by omega
        rw [e]
        exact Int.dvd_sub im (st _)
    rcases Int.le_total 0 n with h | h
    · obtain ⟨m, rfl⟩ := Int.eq_ofNat_of_zero_le h
      exact up m
    · obtain ⟨m, hm⟩ := Int.eq_ofNat_of_zero_le (show 0 ≤ -n by omega)
      obtain rfl : n = -(m : Int) := by omega
      exact dn m
/-- the binomial of n over j -/
def W (n : Int) (j : Nat) : Int := fl n j / fct j
theorem W_mul (n : Int) (j : Nat) : W n j * fct j = fl n j := Int.ediv_mul_cancel (fct_dvd j n)
theorem fct_inj {a b : Int} {j : Nat} (h : a * fct j = b * fct j) : a = b := Int.eq_of_mul_eq_mul_right (by have := fct_pos j; omega) h
theorem W_r (n : Int) : W n 0 = 1 := rfl
theorem W_next (n : Int) (j : Nat) : W n (j + 1) * ((j : Int) + 1) = W n j * (n - j) := by
  refine fct_inj (j := j) ?_
  have h1 := W_mul n (j + 1)
  have h2 := W_mul n j
  have h3 : fl n (j + 1) = fl n j * (n - j) := rfl
  have h4 : fct (j + 1) = ((j : Int) + 1) * fct j := rfl
  rw [h4, h3, ← h2] at h1
  rw [Int.mul_assoc, h1]
  grind
theorem W_div (n : Int) (j : Nat) : W n j * (n - j) / ((j : Int) + 1) = W n (j + 1) := by
  rw [← W_next]
  exact Int.mul_ediv_cancel _ (by omega)
theorem W_pascal (n : Int) (j : Nat) : W (n + 1) (j + 1) = W n (j + 1) + W n j := by
  refine fct_inj (j := j + 1) ?_
  have h1 := W_mul (n + 1) (j + 1)
  have h2 := W_mul n (j + 1)
  have h3 := W_mul n j
  have h4 : fct (j + 1) = ((j : Int) + 1) * fct j := rfl
  have h5 := fl_step n j
  rw [h1, h5, ← h2, ← h3, Int.add_mul, h4]
  grind
theorem W_nil (j : Nat) : W 0 (j + 1) = 0 := by
  have h0 : fl 0 (j + 1) = 0 := by
    have := fl_head (-1) j
    rw [show (-1 : Int) + 1 = 0 by omega, Int.zero_mul] at this
    exact this
  unfold W
  rw [h0, Int.zero_ediv]
theorem fl_size {n : Int} {b : Nat} : ∀ j : Nat, n.natAbs + j ≤ 2 ^ b → (fl n j).natAbs ≤ 2 ^ (b * j)
  | 0, _ => by show (1 : Int).natAbs ≤ 2 ^ (b * 0); rw [Nat.mul_zero]; decide
  | j + 1, h => by
    have ih := fl_size (n := n) (b := b) j (by omega)
    show (fl n j * (n - j)).natAbs ≤ _
    rw [Int.natAbs_mul, show b * (j + 1) = b * j + b from rfl, Nat.pow_add]
    exact Nat.mul_le_mul ih (by omega)
theorem W_size {n : Int} {b j : Nat} (h : n.natAbs + j ≤ 2 ^ b) : (W n j).natAbs ≤ 2 ^ (b * j) := by
  have h1 := W_mul n j
  have h2 := fct_pos j
  have h3 := fl_size (n := n) (b := b) j h
  rw [← h1, Int.natAbs_mul] at h3
  have : (W n j).natAbs * 1 ≤ (W n j).natAbs * (fct j).natAbs := Nat.mul_le_mul_left _ (by omega)
  omega
/-- the value of a polynomial's rest, from the index j on -/
def pols (n : Int) : Nat → List Int → Int
  | _, [] => 0
  | j, a :: r => a * W n j + pols n (j + 1) r
def pol (r : List Int) (n : Int) : Int := pols n 0 r
theorem pols_snoc (n a : Int) : ∀ (j : Nat) (l : List Int), pols n j (l ++ [a]) = pols n j l + a * W n (j + l.length)
  | j, [] => by show a * W n j + 0 = 0 + a * W n (j + 0); rw [Nat.add_zero]; omega
  | j, b :: r => by
    have ih := pols_snoc n a (j + 1) r
    show b * W n j + pols n (j + 1) (r ++ [a]) = b * W n j + pols n (j + 1) r + a * W n (j + (r.length + 1))
    rw [ih, show j + 1 + r.length = j + (r.length + 1) by omega]
    omega
theorem pol_take {n a : Int} {l : List Int} {i : Nat} (h : l[i]? = some a) : pol (l.take (i + 1)) n = pol (l.take i) n + a * W n i := by
  have hi := (List.getElem?_eq_some_iff.mp h).1
  unfold pol
  rw [List.take_add_one, h, show (some a).toList = [a] from rfl, pols_snoc, List.length_take, Nat.min_eq_left (by omega), Nat.zero_add]
theorem pols_step (n : Int) : ∀ (j : Nat) (r : List Int), pols (n + 1) (j + 1) r = pols n (j + 1) r + pols n j r
  | j, [] => rfl
  | j, a :: r => by
    have ih := pols_step n (j + 1) r
    show a * W (n + 1) (j + 1) + pols (n + 1) (j + 1 + 1) r = a * W n (j + 1) + pols n (j + 1 + 1) r + (a * W n j + pols n (j + 1) r)
    rw [ih, W_pascal, Int.mul_add]
    omega
/-- one day more: the polynomial without its first entry -/
theorem pol_step (n : Int) (r : List Int) : pol r (n + 1) - pol r n = pol (r.drop 1) n := by
  cases r with
  | nil => rfl
  | cons a r =>
    show a * W (n + 1) 0 + pols (n + 1) 1 r - (a * W n 0 + pols n 1 r) = pols n 0 r
    have h := pols_step n 0 r
    rw [Nat.zero_add] at h
    rw [h, W_r, W_r]
    omega
theorem pols_nil : ∀ (j : Nat) (r : List Int), pols 0 (j + 1) r = 0
  | _, [] => rfl
  | j, a :: r => by
    show a * W 0 (j + 1) + pols 0 (j + 1 + 1) r = 0
    rw [W_nil, pols_nil]
    omega
theorem pol_zero (r : List Int) : pol r 0 = (r.take 1).sum := by
  cases r with
  | nil => rfl
  | cons a r =>
    show a * W 0 0 + pols 0 (0 + 1) r = ([a] : List Int).sum
    rw [pols_nil, W_r]
    simp
/-! ### differences, and Newton's polynomial -/
def D (f : Int → Int) : Int → Int := fun n => f (n + 1) - f n
def Dk : Nat → (Int → Int) → Int → Int
  | 0, f => f
  | k + 1, f => Dk k (D f)
theorem Dk_succ : ∀ (k : Nat) (f : Int → Int), Dk (k + 1) f = D (Dk k f)
  | 0, _ => rfl
  | k + 1, f => Dk_succ k (D f)
theorem D_zero {f : Int → Int} (h : ∀ n, f n = 0) : ∀ n, D f n = 0 := fun n => by unfold D; rw [h, h]; rfl
theorem Dk_zero : ∀ (k : Nat) {f : Int → Int}, (∀ n, f n = 0) → ∀ n, Dk k f n = 0
  | 0, _, h => h
  | k + 1, _, h => Dk_zero k (D_zero h)
theorem Dk_le {f : Int → Int} {a b : Nat} (hab : a ≤ b) (h : ∀ n, Dk a f n = 0) : ∀ n, Dk b f n = 0 := by
  induction b with
  | zero => rw [Nat.le_zero.mp hab] at h; exact h
  | succ b ih =>
    rcases Nat.lt_or_ge b a with h1 | h1
    · rw [show b + 1 = a by omega]; exact h
    · rw [Dk_succ]; exact D_zero (ih h1)
theorem Dk_add : ∀ (k : Nat) (f g : Int → Int) (n : Int), Dk k (fun x => f x + g x) n = Dk k f n + Dk k g n
  | 0, _, _, _ => rfl
  | k + 1, f, g, n => by
    have ih := Dk_add k (D f) (D g) n
    show Dk k (D fun x => f x + g x) n = Dk k (D f) n + Dk k (D g) n
    rw [← ih]
    congr 1
    funext x
    show f (x + 1) + g (x + 1) - (f x + g x) = f (x + 1) - f x + (g (x + 1) - g x)
    omega
theorem Dk_mul : ∀ (k : Nat) (c : Int) (f : Int → Int) (n : Int), Dk k (fun x => c * f x) n = c * Dk k f n
  | 0, _, _, _ => rfl
  | k + 1, c, f, n => by
    have ih := Dk_mul k c (D f) n
    show Dk k (D fun x => c * f x) n = c * Dk k (D f) n
    rw [← ih]
    congr 1
    funext x
    show c * f (x + 1) - c * f x = c * (f (x + 1) - f x)
    rw [Int.mul_sub]
theorem Dk_shift : ∀ (k : Nat) (f : Int → Int) (d n : Int), Dk k (fun x => f (x + d)) n = Dk k f (n + d)
  | 0, _, _, _ => rfl
  | k + 1, f, d, n => by
    have ih := Dk_shift k (D f) d n
    show Dk k (D fun x => f (x + d)) n = Dk k (D f) (n + d)
    rw [← ih]
    congr 1
    funext x
    show f (x + 1 + d) - f (x + d) = f (x + d + 1) - f (x + d)
    rw [show x + 1 + d = x + d + 1 by omega]
theorem D_prod (f g : Int → Int) : D (fun x => f x * g x) = fun x => D f x * g (x + 1) + f x * D g x := by
  funext x
  show f (x + 1) * g (x + 1) - f x * g x = (f (x + 1) - f x) * g (x + 1) + f x * (g (x + 1) - g x)
  rw [Int.sub_mul, Int.mul_sub]
  omega
/-- a product of degrees i and j, its highest difference -/
theorem Dk_top : ∀ (s i j : Nat), i + j = s → ∃ c : Nat, 1 ≤ c ∧ ∀ (f g : Int → Int) (u v : Int), (∀ n, Dk i f n = u) → (∀ n, Dk j g n = v) → ∀ n, Dk (i + j) (fun x => f x * g x) n = c * (u * v) := by
  intro s
  induction s with
  | zero =>
    intro i j h
    obtain rfl : i = 0 := by omega
    obtain rfl : j = 0 := by omega
    refine ⟨1, Nat.le_refl _, fun f g u v hf hg n => ?_⟩
    show f n * g n = (1 : Nat) * (u * v)
    have h1 : f n = u := hf n
    have h2 : g n = v := hg n
    rw [h1, h2]; omega
  | succ s ih =>
    intro i j h
    match i, j, h with
    | 0, j + 1, h =>
      refine ⟨1, Nat.le_refl _, fun f g u v hf hg n => ?_⟩
      have e : (fun x => f x * g x) = fun x => u * g x := by funext x; rw [show f x = u from hf x]
      rw [e, Dk_mul, show 0 + (j + 1) = j + 1 by omega, hg]; omega
    | i + 1, 0, h =>
      refine ⟨1, Nat.le_refl _, fun f g u v hf hg n => ?_⟩
      have e : (fun x => f x * g x) = fun x => v * f x := by funext x; rw [show g x = v from hg x, Int.mul_comm]
      rw [e, Dk_mul, show i + 1 + 0 = i + 1 by omega, hf, Int.mul_comm]; omega
    | i + 1, j + 1, h =>
      obtain ⟨c1, l1, h1⟩ := ih i (j + 1) (by omega)
      obtain ⟨c2, l2, h2⟩ := ih (i + 1) j (by omega)
      refine ⟨c1 + c2, by omega, fun f g u v hf hg n => ?_⟩
      show Dk (i + 1 + j) (D fun x => f x * g x) n = _
      rw [D_prod, Dk_add]
      have a1 := h1 (D f) (fun x => g (x + 1)) u v hf (fun n => by rw [Dk_shift]; exact hg _) n
      have a2 := h2 f (D g) u v hf hg n
      rw [show i + (j + 1) = i + 1 + j by omega] at a1
      rw [a1, a2, show ((c1 + c2 : Nat) : Int) = (c1 : Int) + (c2 : Int) by omega, Int.add_mul]
theorem Dk_prod {a b : Nat} {f g : Int → Int} (hf : ∀ n, Dk a f n = 0) (hg : ∀ n, Dk b g n = 0) : ∀ n, Dk (a + b - 1) (fun x => f x * g x) n = 0 := by
  cases a with
  | zero => exact Dk_zero _ fun n => by rw [show f n = 0 from hf n, Int.zero_mul]
  | succ a =>
    cases b with
    | zero => exact Dk_zero _ fun n => by rw [show g n = 0 from hg n, Int.mul_zero]
    | succ b =>
      have e : a + 1 + (b + 1) - 1 = (a + b) + 1 := by omega
      rw [e, Dk_succ]
      -- both highest differences are constant
      have cf : ∀ n, Dk a f n = Dk a f 0 := by
        have st : ∀ n, Dk a f (n + 1) = Dk a f n := fun n => by
          have := hf n
          rw [Dk_succ] at this
          have h2 : Dk a f (n + 1) - Dk a f n = 0 := this
          omega
        intro n
        rcases Int.le_total 0 n with h | h
        · obtain ⟨m, rfl⟩ := Int.eq_ofNat_of_zero_le h
          induction m with
          | zero => rfl
          | succ m im => rw [show ((m + 1 : Nat) : Int) = (m : Int) + 1 by omega, st]; exact im (by omega)
        · obtain ⟨m, hm⟩ := Int.eq_ofNat_of_zero_le (show 0 ≤ -n by omega)
          obtain rfl : n = -(m : Int) := by omega
          clear hm h
          induction m with
          | zero => rfl
          | succ m im => rw [← st, show -((m + 1 : Nat) : Int) + 1 = -(m : Int) by omega]; exact im
      have cg : ∀ n, Dk b g n = Dk b g 0 := by
        have st : ∀ n, Dk b g (n + 1) = Dk b g n := fun n => by
          have := hg n
          rw [Dk_succ] at this
          have h2 : Dk b g (n + 1) - Dk b g n = 0 := this
          omega
        intro n
        rcases Int.le_total 0 n with h | h
        · obtain ⟨m, rfl⟩ := Int.eq_ofNat_of_zero_le h
          induction m with
          | zero => rfl
          | succ m im => rw [show ((m + 1 : Nat) : Int) = (m : Int) + 1 by omega, st]; exact im (by omega)
        · obtain ⟨m, hm⟩ := Int.eq_ofNat_of_zero_le (show 0 ≤ -n by omega)
          obtain rfl : n = -(m : Int) := by omega
          clear hm h
          induction m with
          | zero => rfl
          | succ m im => rw [← st, show -((m + 1 : Nat) : Int) + 1 = -(m : Int) by omega]; exact im
      obtain ⟨c, _, hc⟩ := Dk_top (a + b) a b rfl
      intro n
      unfold D
      rw [hc f g _ _ cf cg, hc f g _ _ cf cg]
      omega
/-- the differences of a polynomial -/
theorem D_pol (r : List Int) : D (pol r) = pol (r.drop 1) := by
  funext n
  exact pol_step n r
theorem Dk_pol : ∀ (k : Nat) (r : List Int), Dk k (pol r) = pol (r.drop k)
  | 0, _ => rfl
  | k + 1, r => by
    show Dk k (D (pol r)) = _
    rw [D_pol, Dk_pol k, List.drop_drop, Nat.add_comm]
theorem Dk_pol0 (r : List Int) : ∀ n, Dk r.length (pol r) n = 0 := fun n => by
  rw [Dk_pol, List.drop_length]
  rfl
/-- the first m differences of f at b -/
def newt : Nat → (Int → Int) → Int → List Int
  | 0, _, _ => []
  | m + 1, f, b => f b :: newt m (D f) b
theorem newt_length : ∀ (m : Nat) (f : Int → Int) (b : Int), (newt m f b).length = m
  | 0, _, _ => rfl
  | m + 1, f, b => by show (newt m (D f) b).length + 1 = m + 1; rw [newt_length]
theorem newt_get : ∀ (m : Nat) (f : Int → Int) (b : Int) (k : Nat), k < m → (newt m f b)[k]? = some (Dk k f b)
  | m + 1, f, b, 0, _ => rfl
  | m + 1, f, b, k + 1, h => by
    show (newt m (D f) b)[k]? = _
    rw [newt_get m (D f) b k (by omega)]
    rfl
theorem newton : ∀ (m : Nat) (f : Int → Int), (∀ n, Dk m f n = 0) → ∀ n, pol (newt m f 0) n = f n
  | 0, f, h, n => (h n).symm
  | m + 1, f, h, n => by
    have ih := newton m (D f) h
    have st : ∀ n, pol (newt (m + 1) f 0) (n + 1) - pol (newt (m + 1) f 0) n = f (n + 1) - f n := fun n => by
      rw [pol_step]
      exact ih n
    have h0 : pol (newt (m + 1) f 0) 0 = f 0 := by
      rw [pol_zero]
      show ([f 0] : List Int).sum = f 0
      simp
    rcases Int.le_total 0 n with h | h
    · obtain ⟨k, rfl⟩ := Int.eq_ofNat_of_zero_le h
      clear h
      induction k with
      | zero => exact h0
      | succ k ik =>
        have := st (k : Int)
        rw [show ((k + 1 : Nat) : Int) = (k : Int) + 1 by omega]
        omega
    · obtain ⟨k, hk⟩ := Int.eq_ofNat_of_zero_le (show 0 ≤ -n by omega)
      obtain rfl : n = -(k : Int) := by omega
      clear hk h
      induction k with
      | zero => exact h0
      | succ k ik =>
        have := st (-((k + 1 : Nat) : Int))
        rw [show -((k + 1 : Nat) : Int) + 1 = -(k : Int) by omega] at this
        omega
/-- the values of f at b, b + 1 .. -/
def vals (m : Nat) (f : Int → Int) (b : Int) : List Int := (List.range m).map fun (i : Nat) => f (b + (i : Int))
theorem vals_length (m : Nat) (f : Int → Int) (b : Int) : (vals m f b).length = m := by simp [vals]
theorem vals_get {m : Nat} {f : Int → Int} {b : Int} {i : Nat} (h : i < m) : (vals m f b)[i]? = some (f (b + (i : Int))) := by
  unfold vals
  rw [List.getElem?_map, List.getElem?_range h]
  rfl
/-- one row of differences -/
def nbr (r : List Int) : List Int := List.zipWith (fun v l => l - v) r (r.drop 1)
theorem nbr_length (r : List Int) : (nbr r).length = r.length - 1 := by
  unfold nbr
  rw [List.length_zipWith, List.length_drop]
  omega
theorem nbr_vals (m : Nat) (f : Int → Int) (b : Int) : nbr (vals (m + 1) f b) = vals m (D f) b := by
  apply List.ext_getElem?
  intro i
  by_cases h : i < m
  · rw [vals_get h]
    unfold nbr
    rw [List.getElem?_zipWith, vals_get (show i < m + 1 by omega), List.getElem?_drop, vals_get (show 1 + i < m + 1 by omega)]
    show some (f (b + ((1 + i : Nat) : Int)) - f (b + (i : Int))) = some (f (b + (i : Int) + 1) - f (b + (i : Int)))
    rw [show b + ((1 + i : Nat) : Int) = b + (i : Int) + 1 by omega]
  · have h1 : (nbr (vals (m + 1) f b)).length ≤ i := by rw [nbr_length, vals_length]; omega
    have h2 : (vals m (D f) b).length ≤ i := by rw [vals_length]; omega
    rw [List.getElem?_eq_none h1, List.getElem?_eq_none h2]
/-- the rows of differences, their first entries; the first k of them -/
def rowD : Nat → List Int → List Int
  | 0, r => r
  | k + 1, r => rowD k (nbr r)
theorem rowD_succ : ∀ (k : Nat) (r : List Int), rowD (k + 1) r = nbr (rowD k r)
  | 0, _ => rfl
  | k + 1, r => rowD_succ k (nbr r)
theorem rowD_length : ∀ (k : Nat) (r : List Int), (rowD k r).length = r.length - k
  | 0, _ => rfl
  | k + 1, r => by
    show (rowD k (nbr r)).length = _
    rw [rowD_length k, nbr_length]
    omega
def difs : Nat → List Int → List Int
  | 0, _ => []
  | k + 1, r => r.take 1 ++ difs k (nbr r)
theorem difs_vals : ∀ (m : Nat) (f : Int → Int) (b : Int), difs m (vals m f b) = newt m f b
  | 0, _, _ => rfl
  | m + 1, f, b => by
    show (vals (m + 1) f b).take 1 ++ difs m (nbr (vals (m + 1) f b)) = f b :: newt m (D f) b
    rw [nbr_vals, difs_vals m]
    have : (vals (m + 1) f b).take 1 = [f b] := by
      apply List.ext_getElem?
      intro i
      cases i with
      | zero =>
        rw [List.getElem?_take_of_lt (by omega), vals_get (by omega), show b + ((0 : Nat) : Int) = b by omega]
        rfl
      | succ i =>
        rw [List.getElem?_take_eq_none (by omega)]
        rfl
    rw [this]
    rfl
theorem difs_snoc : ∀ (k : Nat) (r : List Int), difs (k + 1) r = difs k r ++ (rowD k r).take 1
  | 0, r => by show r.take 1 ++ [] = [] ++ r.take 1; simp
  | k + 1, r => by
    show r.take 1 ++ difs (k + 1) (nbr r) = (r.take 1 ++ difs k (nbr r)) ++ (rowD k (nbr r)).take 1
    rw [difs_snoc k, List.append_assoc]
/-- a place earlier: from the last difference on -/
def earl : List Int → List Int
  | [] => []
  | d :: r => (d - (earl r).headD 0) :: earl r
theorem earl_newt : ∀ (m : Nat) (f : Int → Int) (b : Int), (∀ n, Dk m f n = 0) → earl (newt m f b) = newt m f (b - 1)
  | 0, _, _, _ => rfl
  | m + 1, f, b, h => by
    have ih := earl_newt m (D f) b h
    show (f b - (earl (newt m (D f) b)).headD 0) :: earl (newt m (D f) b) = f (b - 1) :: newt m (D f) (b - 1)
    rw [ih]
    congr 1
    cases m with
    | zero =>
      have : D f (b - 1) = 0 := h _
      unfold D at this
      rw [show b - 1 + 1 = b by omega] at this
      show f b - 0 = f (b - 1)
      omega
    | succ m =>
      show f b - D f (b - 1) = f (b - 1)
      unfold D
      rw [show b - 1 + 1 = b by omega]
      omega
/-- without the zeros at the end -/
def trim : List Int → List Int
  | [] => []
  | a :: r => match trim r with
    | [] => if a = 0 then [] else [a]
    | b :: s => a :: b :: s
theorem trim_snoc0 : ∀ r : List Int, trim (r ++ [0]) = trim r
  | [] => rfl
  | a :: r => by
    have ih := trim_snoc0 r
    show (match trim (r ++ [0]) with | [] => if a = 0 then [] else [a] | b :: s => a :: b :: s) = _
    rw [ih]
    rfl
theorem trim_snoc : ∀ (r : List Int) {a : Int}, a ≠ 0 → trim (r ++ [a]) = r ++ [a]
  | [], a, h => by show (if a = 0 then [] else [a]) = [a]; rw [if_neg h]
  | c :: r, a, h => by
    have ih := trim_snoc r h
    show (match trim (r ++ [a]) with | [] => if c = 0 then [] else [c] | b :: s => c :: b :: s) = c :: (r ++ [a])
    rw [ih]
    cases r <;> rfl
theorem snoc_of {r : List Int} (h : r ≠ []) : ∃ s a, r = s ++ [a] := ⟨r.dropLast, r.getLast h, (List.dropLast_concat_getLast h).symm⟩
theorem pol_snoc0 (r : List Int) (n : Int) : pol (r ++ [0]) n = pol r n := by
  unfold pol
  rw [pols_snoc, Int.zero_mul, Int.add_zero]
theorem pol_trim_aux : ∀ (k : Nat) (r : List Int), r.length = k → ∀ n, pol (trim r) n = pol r n
  | 0, r, h, n => by rw [List.length_eq_zero_iff.mp h]; rfl
  | k + 1, r, h, n => by
    obtain ⟨s, a, rfl⟩ := snoc_of (r := r) (fun z => by rw [z] at h; cases h)
    by_cases ha : a = 0
    · subst ha
      rw [trim_snoc0, pol_snoc0]
      exact pol_trim_aux k s (by rw [List.length_append] at h; exact Nat.succ.inj h) n
    · rw [trim_snoc s ha]
theorem pol_trim (r : List Int) (n : Int) : pol (trim r) n = pol r n := pol_trim_aux _ r rfl n
/-- no zero at the end -/
def Trm (r : List Int) : Prop := ∀ s a, r = s ++ [a] → a ≠ 0
theorem trim_trm : ∀ (k : Nat) (r : List Int), r.length = k → Trm (trim r)
  | 0, r, h => by
    rw [List.length_eq_zero_iff.mp h]
    intro s a e
    have e2 := congrArg List.length e
    rw [List.length_append] at e2
    exact absurd e2 (by show ¬ 0 = s.length + 1; omega)
  | k + 1, r, h => by
    obtain ⟨s, a, rfl⟩ := snoc_of (r := r) (fun z => by rw [z] at h; cases h)
    by_cases ha : a = 0
    · subst ha
      rw [trim_snoc0]
      exact trim_trm k s (by rw [List.length_append] at h; exact Nat.succ.inj h)
    · rw [trim_snoc s ha]
      intro s2 a2 e
      have := List.append_inj_right' e rfl
      have h3 : a = a2 := by injection this
      rw [← h3]; exact ha
theorem trm_trim {r : List Int} (h : Trm r) : trim r = r := by
  by_cases e : r = []
  · rw [e]; rfl
  · obtain ⟨s, a, rfl⟩ := snoc_of e
    exact trim_snoc s (h s a rfl)
/-! ### polynomials through values, products -/
def earls : Nat → List Int → List Int
  | 0, r => r
  | b + 1, r => earl (earls b r)
theorem earls_newt {m : Nat} {f : Int → Int} {b : Int} (h : ∀ n, Dk m f n = 0) : ∀ j : Nat, earls j (newt m f b) = newt m f (b - (j : Int))
  | 0 => by show newt m f b = newt m f (b - ((0 : Nat) : Int)); rw [show b - ((0 : Nat) : Int) = b by omega]
  | j + 1 => by
    show earl (earls j (newt m f b)) = _
    rw [earls_newt h j, earl_newt m f _ h, show b - (j : Int) - 1 = b - ((j + 1 : Nat) : Int) by omega]
def thru (b : Nat) (r : List Int) : List Int := trim (earls b (difs r.length r))
theorem thru_vals {m : Nat} {f : Int → Int} {b : Nat} (h : ∀ n, Dk m f n = 0) : thru b (vals m f (b : Int)) = trim (newt m f 0) := by
  unfold thru
  rw [vals_length, difs_vals, earls_newt h, show (b : Int) - (b : Int) = 0 by omega]
theorem pol_thru {m : Nat} {f : Int → Int} {b : Nat} (h : ∀ n, Dk m f n = 0) (n : Int) : pol (thru b (vals m f (b : Int))) n = f n := by
  rw [thru_vals h, pol_trim, newton m f h]
theorem thru_trm (b : Nat) (r : List Int) : Trm (thru b r) := trim_trm _ _ rfl
theorem Dk_ge : ∀ (k : Nat) {f : Int → Int} {N : Int}, (∀ n, N ≤ n → f n = 0) → ∀ n, N ≤ n → Dk k f n = 0
  | 0, _, _, h => h
  | k + 1, f, N, h => Dk_ge k fun n hn => by unfold D; rw [h _ (by omega), h _ hn]; rfl
/-- zero from somewhere on: zero -/
theorem zero_of_ge {m : Nat} {f : Int → Int} {N : Int} (hm : ∀ n, Dk m f n = 0) (h : ∀ n, N ≤ n → f n = 0) : ∀ n, f n = 0 := by
  have e : ∀ n, (fun x => f (x + N)) n = 0 := by
    intro n
    refine (newton m (fun x => f (x + N)) (fun n => by rw [Dk_shift]; exact hm _) n).symm.trans ?_
    have z : newt m (fun x => f (x + N)) 0 = List.replicate m 0 := by
      apply List.ext_getElem?
      intro i
      by_cases hi : i < m
      · rw [newt_get m _ _ i hi, Dk_shift, Dk_ge i h _ (by omega), List.getElem?_replicate_of_lt hi]
      · rw [List.getElem?_eq_none (by rw [newt_length]; omega), List.getElem?_eq_none (by rw [List.length_replicate]; omega)]
    rw [z]
    have : ∀ (m j : Nat), pols n j (List.replicate m 0) = 0 := by
      intro m
      induction m with
      | zero => intro j; rfl
      | succ m im => intro j; rw [List.replicate_succ]; show 0 * W n j + pols n (j + 1) (List.replicate m 0) = 0; rw [im]; omega
    exact this m 0
  intro n
  have := e (n - N)
  show f n = 0
  have h2 : f (n - N + N) = 0 := this
  rw [show n - N + N = n by omega] at h2
  exact h2
theorem pol_entry (r : List Int) (k : Nat) : Dk k (pol r) 0 = r.getD k 0 := by
  rw [Dk_pol, pol_zero, List.getD_eq_getElem?_getD]
  cases h : r[k]? with
  | none =>
    rw [List.drop_eq_nil_of_le (List.getElem?_eq_none_iff.mp h)]
    rfl
  | some a =>
    obtain ⟨hk, e⟩ := List.getElem?_eq_some_iff.mp h
    rw [List.drop_eq_getElem_cons hk, e]
    show ([a] : List Int).sum = a
    simp
theorem Trm.last {r : List Int} (h : Trm r) (hr : r ≠ []) : r.getD (r.length - 1) 0 ≠ 0 := by
  obtain ⟨s, a, rfl⟩ := snoc_of hr
  rw [List.getD_eq_getElem?_getD, List.length_append]
  show (s ++ [a])[s.length + 1 - 1]?.getD 0 ≠ 0
  rw [show s.length + 1 - 1 = s.length by omega, List.getElem?_append_right (Nat.le_refl _), Nat.sub_self]
  exact h s a rfl
theorem trm_len {r s : List Int} (hs : Trm s) (e : ∀ k, r.getD k 0 = s.getD k 0) : s.length ≤ r.length := by
  by_cases z : s = []
  · rw [z]; exact Nat.zero_le _
  · have h1 := hs.last z
    have h2 : 0 < s.length := List.length_pos_iff.mpr z
    rcases Nat.lt_or_ge r.length s.length with h | h
    · exfalso
      refine h1 ?_
      rw [← e, List.getD_eq_getElem?_getD, List.getElem?_eq_none (by omega)]
      rfl
    · exact h
theorem pol_inj {r s : List Int} (hr : Trm r) (hs : Trm s) (e : ∀ n, pol r n = pol s n) : r = s := by
  have e1 : pol r = pol s := funext e
  have e2 : ∀ k, r.getD k 0 = s.getD k 0 := fun k => by rw [← pol_entry, ← pol_entry, e1]
  have l1 := trm_len hs e2
  have l2 := trm_len hr fun k => (e2 k).symm
  apply List.ext_getElem (by omega)
  intro i h1 h2
  have := e2 i
  rw [List.getD_eq_getElem?_getD, List.getD_eq_getElem?_getD, List.getElem?_eq_getElem h1, List.getElem?_eq_getElem h2] at this
  exact this
/-- equal from somewhere on -/
theorem pol_inj_ge {r s : List Int} {N : Int} (hr : Trm r) (hs : Trm s) (e : ∀ n, N ≤ n → pol r n = pol s n) : r = s := by
  refine pol_inj hr hs fun n => ?_
  have h1 : ∀ n, Dk (max r.length s.length) (fun x => pol r x + (-1) * pol s x) n = 0 := fun n => by
    rw [Dk_add, Dk_mul, Dk_le (Nat.le_max_left _ _) (Dk_pol0 r), Dk_le (Nat.le_max_right _ _) (Dk_pol0 s)]
    rfl
  have h2 := zero_of_ge h1 (N := N) (fun n hn => by show pol r n + -1 * pol s n = 0; rw [e n hn]; omega) n
  have h3 : pol r n + -1 * pol s n = 0 := h2
  omega
def prodL (r s : List Int) : List Int := thru 0 (vals (r.length + s.length) (fun x => pol r x * pol s x) ((0 : Nat) : Int))
theorem prod_D (r s : List Int) : ∀ n, Dk (r.length + s.length) (fun x => pol r x * pol s x) n = 0 := Dk_le (Nat.sub_le _ 1) (Dk_prod (Dk_pol0 r) (Dk_pol0 s))
theorem pol_prod (r s : List Int) (n : Int) : pol (prodL r s) n = pol r n * pol s n := pol_thru (prod_D r s) n
theorem prod_trm (r s : List Int) : Trm (prodL r s) := thru_trm _ _
theorem prod_comm (r s : List Int) : prodL r s = prodL s r := pol_inj (prod_trm _ _) (prod_trm _ _) fun n => by rw [pol_prod, pol_prod, Int.mul_comm]
theorem trm_nil : Trm [] := fun s a e => by
  have := congrArg List.length e
  rw [List.length_append] at this
  exact absurd this (by show ¬ 0 = s.length + 1; omega)
theorem prod_nil {r s : List Int} (h : r = [] ∨ s = []) : prodL r s = [] := pol_inj (prod_trm _ _) trm_nil fun n => by
  rw [pol_prod]
  rcases h with rfl | rfl
  · show 0 * pol s n = 0; omega
  · show pol r n * 0 = 0; omega
theorem newt_snoc : ∀ (m : Nat) (f : Int → Int) (b : Int), newt (m + 1) f b = newt m f b ++ [Dk m f b]
  | 0, _, _ => rfl
  | m + 1, f, b => by
    show f b :: newt (m + 1) (D f) b = (f b :: newt m (D f) b) ++ [Dk m (D f) b]
    rw [newt_snoc m (D f) b]
    rfl
theorem prod_top {r s : List Int} (hr : Trm r) (hs : Trm s) (r0 : r ≠ []) (s0 : s ≠ []) : (prodL r s).length = r.length + s.length - 1 := by
  have lr : 0 < r.length := List.length_pos_iff.mpr r0
  have ls : 0 < s.length := List.length_pos_iff.mpr s0
  obtain ⟨a, ha⟩ : ∃ a, r.length = a + 1 := ⟨r.length - 1, by omega⟩
  obtain ⟨b, hb⟩ : ∃ b, s.length = b + 1 := ⟨s.length - 1, by omega⟩
  have cr : ∀ n, Dk a (pol r) n = r.getD a 0 := fun n => by
    have h1 : ∀ n, Dk (a + 1) (pol r) n = 0 := by rw [← ha]; exact Dk_pol0 r
    have h2 : ∀ n, Dk a (pol r) n = Dk a (pol r) 0 := by
      have e : Dk a (pol r) = pol (r.drop a) := Dk_pol a r
      have l : (r.drop a).length = 1 := by rw [List.length_drop]; omega
      obtain ⟨x, hx⟩ := List.length_eq_one_iff.mp l
      intro n
      rw [e, hx]
      show x * W n 0 + 0 = x * W 0 0 + 0
      rw [W_r, W_r]
    rw [h2, pol_entry]
  have cs : ∀ n, Dk b (pol s) n = s.getD b 0 := fun n => by
    have h2 : ∀ n, Dk b (pol s) n = Dk b (pol s) 0 := by
      have e : Dk b (pol s) = pol (s.drop b) := Dk_pol b s
      have l : (s.drop b).length = 1 := by rw [List.length_drop]; omega
      obtain ⟨x, hx⟩ := List.length_eq_one_iff.mp l
      intro n
      rw [e, hx]
      show x * W n 0 + 0 = x * W 0 0 + 0
      rw [W_r, W_r]
    rw [h2, pol_entry]
  obtain ⟨c, c1, hc⟩ := Dk_top (a + b) a b rfl
  have top := hc (pol r) (pol s) _ _ cr cs 0
  have nr := hr.last r0
  have ns := hs.last s0
  rw [ha, Nat.add_sub_cancel] at nr
  rw [hb, Nat.add_sub_cancel] at ns
  have nz : (c : Int) * (r.getD a 0 * s.getD b 0) ≠ 0 := Int.mul_ne_zero (by omega) (Int.mul_ne_zero nr ns)
  unfold prodL
  rw [thru_vals (prod_D r s), ha, hb, show a + 1 + (b + 1) = (a + b + 1) + 1 by omega, newt_snoc (a + b + 1)]
  have hz : Dk (a + b + 1) (fun x => pol r x * pol s x) 0 = 0 := by
    have := Dk_prod (a := a + 1) (b := b + 1) (f := pol r) (g := pol s) (by rw [← ha]; exact Dk_pol0 r) (by rw [← hb]; exact Dk_pol0 s) 0
    rw [show a + 1 + (b + 1) - 1 = a + b + 1 by omega] at this
    exact this
  rw [hz, trim_snoc0, newt_snoc (a + b), top, trim_snoc _ nz, List.length_append, newt_length]
  show a + b + 1 = a + b + 1 + 1 - 1
  omega
/-! ### how long the numbers may become -/
def Sz (B : Nat) (r : List Int) : Prop := ∀ a ∈ r, a.natAbs < 2 ^ B
theorem Sz.mono {B C : Nat} {r : List Int} (h : Sz B r) (hl : B ≤ C) : Sz C r := fun a ha => Nat.lt_of_lt_of_le (h a ha) (Nat.pow_le_pow_right (by decide) hl)
theorem pols_size {n : Int} {B b L : Nat} : ∀ (r : List Int) (j : Nat), Sz B r → j + r.length ≤ L → n.natAbs + L ≤ 2 ^ b → (pols n j r).natAbs ≤ r.length * 2 ^ (B + b * L)
  | [], _, _, _, _ => Nat.zero_le _
  | a :: r, j, h, hl, hn => by
    rw [List.length_cons] at hl
    have ih := pols_size (n := n) (B := B) (b := b) (L := L) r (j + 1) (fun x hx => h x (List.mem_cons_of_mem _ hx)) (by omega) hn
    have h1 := h a List.mem_cons_self
    have h2 : (W n j).natAbs ≤ 2 ^ (b * j) := W_size (by omega)
    have h3 : 2 ^ (b * j) ≤ 2 ^ (b * L) := Nat.pow_le_pow_right (by decide) (Nat.mul_le_mul_left _ (by omega))
    have h4 : (a * W n j).natAbs ≤ 2 ^ (B + b * L) := by
      rw [Int.natAbs_mul, Nat.pow_add]
      exact Nat.mul_le_mul (by omega) (by omega)
    show (a * W n j + pols n (j + 1) r).natAbs ≤ (r.length + 1) * 2 ^ (B + b * L)
    rw [Nat.add_mul, Nat.one_mul]
    have := Int.natAbs_add_le (a * W n j) (pols n (j + 1) r)
    omega
theorem pol_size {n : Int} {B b : Nat} {r : List Int} (h : Sz B r) (hn : n.natAbs + r.length ≤ 2 ^ b) : (pol r n).natAbs < 2 ^ (B + b * r.length + r.length) := by
  have h1 := pols_size (n := n) r 0 h (by omega) hn
  have h2 : r.length < 2 ^ r.length := Nat.lt_two_pow_self
  have h3 : 0 < 2 ^ (B + b * r.length) := Nat.pow_pos (by decide)
  have h4 : r.length * 2 ^ (B + b * r.length) < 2 ^ r.length * 2 ^ (B + b * r.length) := Nat.mul_lt_mul_of_pos_right h2 h3
  rw [Nat.add_comm (B + b * r.length), Nat.pow_add 2 r.length]
  show (pols n 0 r).natAbs < _
  omega
theorem nbr_size {B : Nat} {r : List Int} (h : Sz B r) : Sz (B + 1) (nbr r) := fun a ha => by
  unfold nbr at ha
  obtain ⟨i, hi, e⟩ := List.mem_iff_getElem.mp ha
  rw [List.getElem_zipWith] at e
  have h1 := h _ (List.getElem_mem (l := r) (n := i) (by rw [List.length_zipWith] at hi; omega))
  have h2 := h _ (List.mem_of_mem_drop (List.getElem_mem (l := r.drop 1) (n := i) (by rw [List.length_zipWith] at hi; omega)))
  rw [Nat.pow_succ]
  omega
theorem difs_size : ∀ (k : Nat) {B : Nat} {r : List Int}, Sz B r → Sz (B + k) (difs k r)
  | 0, _, _, _ => fun a ha => absurd ha List.not_mem_nil
  | k + 1, B, r, h => fun a ha => by
    rcases List.mem_append.mp ha with h1 | h1
    · exact (h.mono (by omega)) a (List.mem_of_mem_take h1)
    · have := difs_size k (nbr_size h) a h1
      rw [show B + 1 + k = B + (k + 1) by omega] at this
      exact this
theorem mem_trim : ∀ (k : Nat) (r : List Int), r.length = k → ∀ a ∈ trim r, a ∈ r
  | 0, r, h, a, ha => by rw [List.length_eq_zero_iff.mp h] at ha ⊢; exact ha
  | k + 1, r, h, a, ha => by
    obtain ⟨s, b, rfl⟩ := snoc_of (r := r) (fun z => by rw [z] at h; cases h)
    by_cases hb : b = 0
    · subst hb
      rw [trim_snoc0] at ha
      exact List.mem_append_left _ (mem_trim k s (by rw [List.length_append] at h; exact Nat.succ.inj h) a ha)
    · rw [trim_snoc s hb] at ha
      exact ha
theorem trim_size {B : Nat} {r : List Int} (h : Sz B r) : Sz B (trim r) := fun a ha => h a (mem_trim _ r rfl a ha)
theorem earl_size {B : Nat} : ∀ {r : List Int}, Sz B r → Sz (B + r.length) (earl r)
  | [], _ => fun a ha => absurd ha List.not_mem_nil
  | d :: r, h => by
    have ih := earl_size (B := B) (r := r) fun x hx => h x (List.mem_cons_of_mem _ hx)
    have hd : ((earl r).headD 0).natAbs < 2 ^ (B + r.length) := by
      cases e : earl r with
      | nil => exact Nat.pow_pos (by decide)
      | cons x y => exact ih x (by rw [e]; exact List.mem_cons_self)
    intro a ha
    rcases List.mem_cons.mp ha with rfl | ha
    · have h1 := h d List.mem_cons_self
      have h2 : 2 ^ B ≤ 2 ^ (B + r.length) := Nat.pow_le_pow_right (by decide) (by omega)
      show _ < 2 ^ (B + r.length + 1)
      rw [Nat.pow_succ]
      omega
    · exact Nat.lt_of_lt_of_le (ih a ha) (Nat.pow_le_pow_right (by decide) (by show B + r.length ≤ B + (r.length + 1); omega))
theorem earl_length : ∀ r : List Int, (earl r).length = r.length
  | [] => rfl
  | _ :: r => congrArg Nat.succ (earl_length r)
theorem earls_length : ∀ (b : Nat) (r : List Int), (earls b r).length = r.length
  | 0, _ => rfl
  | b + 1, r => (earl_length _).trans (earls_length b r)
theorem earls_size {B : Nat} {r : List Int} (h : Sz B r) : ∀ b : Nat, Sz (B + b * r.length) (earls b r)
  | 0 => by rw [Nat.zero_mul]; exact h
  | b + 1 => by
    have := earl_size (earls_size h b)
    rw [earls_length, show B + b * r.length + r.length = B + (b + 1) * r.length by rw [Nat.add_mul, Nat.one_mul]; omega] at this
    exact this
theorem difs_length : ∀ (k : Nat) (r : List Int), r.length = k → (difs k r).length = k
  | 0, _, _ => rfl
  | k + 1, r, h => by
    show (r.take 1 ++ difs k (nbr r)).length = k + 1
    rw [List.length_append, List.length_take, difs_length k (nbr r) (by rw [nbr_length]; omega)]
    omega
theorem trim_length : ∀ (r : List Int), (trim r).length ≤ r.length
  | [] => Nat.le_refl _
  | a :: r => by
    have ih := trim_length r
    show (match trim r with | [] => if a = 0 then [] else [a] | b :: s => a :: b :: s).length ≤ r.length + 1
    cases e : trim r with
    | nil => dsimp only; split <;> simp
    | cons b s => rw [e] at ih; dsimp only; simp only [List.length_cons] at ih ⊢; omega
theorem thru_length (b : Nat) (r : List Int) : (thru b r).length ≤ r.length := by
  have := trim_length (earls b (difs r.length r))
  rw [earls_length, difs_length _ r rfl] at this
  exact this
theorem thru_size {B b : Nat} {r : List Int} (h : Sz B r) : Sz (B + r.length + b * r.length) (thru b r) := by
  have h1 := earls_size (difs_size r.length h) b
  rw [difs_length _ r rfl] at h1
  exact trim_size h1
theorem vals_size {B m : Nat} {f : Int → Int} {b : Int} (h : ∀ i : Nat, i < m → (f (b + (i : Int))).natAbs < 2 ^ B) : Sz B (vals m f b) := fun a ha => by
  obtain ⟨i, hi, e⟩ := List.mem_map.mp ha
  rw [← e]
  exact h i (List.mem_range.mp hi)
/-- sizes of two factors -/
def POk (B : Nat) (r s : List Int) : Prop := Sz B r ∧ Sz B s ∧ 1 ≤ B ∧ B ≤ 200000 ∧ r.length ≤ 120 ∧ s.length ≤ 120
theorem POk.pols {B : Nat} {r s : List Int} (h : POk B r s) {n : Int} (hn : n.natAbs ≤ 300) : (pol r n).natAbs < 2 ^ (B + 1200) ∧ (pol s n).natAbs < 2 ^ (B + 1200) := by
  obtain ⟨h1, h2, h3, h4, h5, h6⟩ := h
  have a1 := pol_size (n := n) (b := 9) h1 (by show _ ≤ 512; omega)
  have a2 := pol_size (n := n) (b := 9) h2 (by show _ ≤ 512; omega)
  exact ⟨Nat.lt_of_lt_of_le a1 (Nat.pow_le_pow_right (by decide) (by omega)), Nat.lt_of_lt_of_le a2 (Nat.pow_le_pow_right (by decide) (by omega))⟩
theorem prod_length (r s : List Int) : (prodL r s).length ≤ r.length + s.length := by
  have := thru_length 0 (vals (r.length + s.length) (fun x => pol r x * pol s x) ((0 : Nat) : Int))
  rw [vals_length] at this
  exact this
theorem prod_size {B : Nat} {r s : List Int} (h : POk B r s) : Sz (2 * B + 2640) (prodL r s) := by
  have h0 := h
  obtain ⟨h1, h2, h3, h4, h5, h6⟩ := h
  have hv : Sz (2 * B + 2400) (vals (r.length + s.length) (fun x => pol r x * pol s x) ((0 : Nat) : Int)) := vals_size fun i hi => by
    obtain ⟨a1, a2⟩ := h0.pols (n := ((0 : Nat) : Int) + (i : Int)) (by omega)
    show (pol r _ * pol s _).natAbs < _
    rw [Int.natAbs_mul, show 2 * B + 2400 = (B + 1200) + (B + 1200) by omega, Nat.pow_add]
    exact Nat.mul_lt_mul'' a1 a2
  have := thru_size (b := 0) hv
  rw [vals_length] at this
  exact this.mono (by omega)
end K28
namespace K28
open PySem PySem.Spec PyProof.Rows L2
theorem same_upd {H : Hp} {p : Addr} {o : HO} (h : H p = none) : Same H (upd H p o) := fun b x e => by
  rw [upd_ne (ne_of_none e h)]
  exact e
theorem Same.tup {K : PySem.W.Frag} {H H' : Hp} {a : Addr} {xs : List V} (e : Same H H') (h : SqT K H a xs) : SqT K H' a xs := by
  rcases h with (h | ⟨o, h⟩) | h
  · exact .inl (.inl (e _ _ h))
  · exact .inl (.inr ⟨o, e _ _ h⟩)
  · exact .inr h
theorem ixN_nat {n j : Nat} (hj : j < n) : ixN n (j : Int) = some j := by
  unfold ixN
  rw [if_pos (by omega), if_pos (by omega), Int.toNat_natCast]
theorem iteD {c A B : Prop} [Decidable c] (hc : c) (h : A) : if decide c = true then A else B := by
  rw [decide_eq_true hc]
  exact iteT h
theorem iteND {c A B : Prop} [Decidable c] (hc : ¬ c) (h : B) : if decide c = true then A else B := by
  rw [decide_eq_false hc]
  exact iteF h
theorem iteB {b : Bool} {A B : Prop} (hb : b = true) (h : A) : if b = true then A else B := by
  rw [hb]
  exact iteT h
theorem iteNB {b : Bool} {A B : Prop} (hb : b = false) (h : B) : if b = true then A else B := by
  rw [hb]
  exact iteF h
theorem for_enum {K : PySem.W.Frag} {a : Addr} {xs : List V} {g : TG} {tb : TS} {D : Ends} {σ : L2.St} {H : Hp} (Pv : Nat → L2.St → Hp → Prop) (h0 : Pv 0 σ H) (hl : ∀ i σ H, i ≤ xs.length → Pv i σ H → SqL K H a xs)
    (hs : ∀ i x σ H T, xs[i]? = some x → Pv i σ H → H T = none → g (.ref T) σ (upd H T (.tup [.int (i : Nat), x])) fun σ2 H2 => tb { D with nx := Pv (i + 1), ct := Pv (i + 1), bk := D.nx } σ2 H2) (hd : ∀ σ H, Pv xs.length σ H → D.nx σ H) :
    ∃ W : Nat → Nat → L2.St → Hp → Prop, (∃ m, W 0 m σ H) ∧ ∀ i m σ H, W i m σ H →
      ((Ite K a).stop i H ∧ D.nx σ H) ∨ ((Ite K a).go i H ∧ ∃ N : L2.St → Hp → Prop, (∀ σ' H', N σ' H' → ∃ m', m' < m ∧ W (i + 1) m' σ' H') ∧ ∀ x H', (Ite K a).yld i H x H' → g x σ H' fun σ2 H2 => tb { D with nx := N, ct := N, bk := D.nx } σ2 H2) := by
  refine ⟨fun i m σ H => m = xs.length - i ∧ i ≤ xs.length ∧ Pv i σ H, ⟨_, rfl, Nat.zero_le _, h0⟩, ?_⟩
  rintro i m σ H ⟨rfl, hi, p⟩
  have q := hl i σ H hi p
  by_cases hlt : i < xs.length
  · refine .inr ⟨⟨xs, xs[i], q, List.getElem?_eq_getElem hlt⟩, Pv (i + 1), fun σ' H' p' => ⟨xs.length - (i + 1), by omega, rfl, hlt, p'⟩, fun v H' y => ?_⟩
    obtain ⟨T, x, e1, hT, e2, hx⟩ := y
    subst e1 e2
    exact hs i x σ H T (hx xs q) p hT
  · have e : i = xs.length := by omega
    subst e
    exact .inl ⟨⟨xs, q, Nat.le_refl _⟩, hd σ H p⟩
theorem cut_take (xs : List V) (i : Nat) : cutV xs none (some (i : Int)) = xs.take i := by
  unfold cutV
  rw [HT.sIx_none, show HT.sIx xs.length xs.length (some (i : Int)) = min i xs.length from HT.sIx_nat _ _ i, List.drop_zero, Nat.sub_zero]
  by_cases h : i ≤ xs.length
  · rw [Nat.min_eq_left h]
  · rw [Nat.min_eq_right (by omega), List.take_of_length_le (Nat.le_refl _), List.take_of_length_le (by omega)]
theorem cut_drop (xs : List V) (i : Nat) : cutV xs (some (i : Int)) none = xs.drop i := by
  unfold cutV
  rw [HT.sIx_none, show HT.sIx xs.length 0 (some (i : Int)) = min i xs.length from HT.sIx_nat _ _ i]
  by_cases h : i ≤ xs.length
  · rw [Nat.min_eq_left h]
    exact List.take_of_length_le (by rw [List.length_drop]; exact Nat.le_refl _)
  · rw [Nat.min_eq_right (by omega), Nat.sub_self, List.take_zero, List.drop_eq_nil_of_le (by omega)]
theorem small_log {m : Int} (h : m.natAbs < 1024) : m.natAbs.log2 < 9000 := by
  have h1 : m.natAbs.log2 < 10 := PySem.Flt.log2_lt_of (by decide) h
  omega
theorem pe_callN0 {X : Cx} {CX : CXT} {k : Nat} {f : Addr} {fd : FuncData} {ps ks : List Str} {sp : Sp} {E : XK} {x : Str} {p pos : Pos} {kws : List Keyword} {tk : TA} {g : List Value → List Value → List Value} {gV : List V → List V → List V}
    (F : FnOk X.prog X.w X.K X.mg X.base CX k f fd ps sp) (hr : Room k X.A) (hg : Gl X x) (hm : X.mg x = some (.ref f)) (kp : PySem.W.keepIn X.K (.ref f) = true) (hb : KBn X.K fd ps 0 ks g gV) (hx : Passes CX X E) (hkw : PK X kws tk)
    (h1 : (backToKw pos (keywordEach kws X.env)).all (·.1.isSome) = true := by rfl) (h2 : (backToKw pos (keywordEach kws X.env)).filterMap (·.1) = ks := by rfl) (h3 : (x == ("__debug__" : Str)) = false := by decide)
    (h4 : ((backTo pos (starEach [] X.env)).any (·.1) || (backToKw pos (keywordEach kws X.env)).any (·.1.isNone)) = false := by rfl) :
    PE X (.Call (.Name x p) [] kws pos) (tCallN 0 ks.length sp gV E tNil tk) := by
  refine ⟨fun pins s σ H Q I h => wpAny_Call_Name_kw (ld_glob I hg hm ?_ h3)⟩
  refine PySem.W.callWith_KW0 (h₀ := X.base) I.ok.mod.kin kp h1 ?_ h4
  refine thn (hkw.run pos pins s σ H _ I h) fun ws s2 ⟨zs, H2, I2, rz, l1, l2, q2⟩ => ⟨I2.kIn, ?_⟩
  rw [h2]
  exact run_fnN (us := []) (vs := []) F hr hb hx I2 .nil rz rfl l2 q2
/-! ### range(n) as a value, and walked -/
theorem cr_range1 {X : Cx} : CallR X (.type "range") (fun vs H Q => ∃ j, vs = [V.int j] ∧ ∀ p, H p = none → Q (.ref p) (upd H p (.rng 0 j))) := by
  intro pins s σ H vs us Q I r h
  obtain ⟨j, rfl, q⟩ := h
  obtain ⟨u1, rfl, rj⟩ := vals1 r
  obtain ⟨t, rfl⟩ := rj
  refine call_range_1 ⟨.ref s.heap.objs.size, upd H s.heap.objs.size (.rng 0 j), I.laid (t' := s.toks + 1 + 1) (fun b o e => Heap.get?_push_of_some _ e) (Nat.le_refl _) ?_, rfl, q _ (I.hok.fresh (Nat.le_refl _))⟩
  exact ⟨_, _, _, Heap.get?_push_size _ rfl⟩
def iRngV (tl : TE) : TI := fun σ H R => tl σ H fun x H1 => ∃ (a : Addr) (lo hi : Int), x = .ref a ∧ H1 a = some (.rng lo hi) ∧ (-(2 ^ 62) ≤ lo ∧ lo < 2 ^ 62 ∧ -(2 ^ 62) ≤ hi ∧ hi < 2 ^ 62) ∧ R (Itr lo (hi - lo).toNat) H1
theorem pi_rngV {X : Cx} {tg : Expr} {l : Expr} {tl : TE} (hl : PE X l tl) : PI X tg l (iRngV tl) := by
  refine ⟨fun pins s σ H R I h => ?_⟩
  refine thn (hl.run pins s σ H _ I h) fun v s1 ⟨x, H1, I1, r1, q1⟩ => ?_
  obtain ⟨a, lo, hi, e, hr, ⟨h1, h2, h3, h4⟩, q⟩ := q1
  subst e
  cases r1
  obtain ⟨t, u, w, ho⟩ := I1.hok a _ hr
  refine wpAny_pyIter_range (show IsRange s1.heap a lo hi 1 t u w from ho) (small_one h1 h2 h3 h4) ?_
  refine ⟨s1.heap.objs.size, [s1.heap.objs.size], _, _, H1, rfl, I1.kept (t' := s1.toks) fun b o e => Heap.get?_push_of_some _ e, turn_range _ lo (hi - lo).toNat, ?_, fun b hb => ?_, q⟩
  · have e1 : lo + ((0 : Nat) : Int) * 1 = lo := by simp
    have e2 : (((hi - lo).toNat : Nat) : Int) - ((0 : Nat) : Int) = Builtin.Range.rangeSize lo hi 1 := by rw [rangeSize_one]; split <;> omega
    show IsRangeIter _ _ (lo + ((0 : Nat) : Int) * 1) ((((hi - lo).toNat : Nat) : Int) - ((0 : Nat) : Int)) 1
    rw [e1, e2]
    exact Heap.get?_push_size _ rfl
  · have e : b = s1.heap.objs.size := by simpa using hb
    subst e
    exact I1.fpOk (Nat.le_refl _) (I1.hok.fresh (Nat.le_refl _))
/-- a tuple as a comprehension's target -/
theorem pg_tupK {X : Cx} {K : PySem.W.Frag} (hK : X.K = K) {es : List Expr} {k : Nat} {pos : Pos} {t : TGs} {n : Nat} (hc : X.calm = true) (h : PGs X es t)
    (hn : (assignEach es X.env).length = n := by rfl) (hst : (assignEach es X.env).findIdx? (·.1) = none := by rfl) : PG X (.Tuple es k pos) (gTup K n t) := by
  subst hK
  exact pg_tup hc h hn hst
theorem dp_ints {K : PySem.W.Frag} {H : Hp} : ∀ {ns : List Int}, DpAll K H (ns.map V.int) (ns.map PyData.int)
  | [] => .nil
  | _ :: _ => .cons (.int _) dp_ints
theorem lay_ints : ∀ (ns : List Int), PyData.canLayAll0 (ns.map PyData.int) = true
  | [] => rfl
  | _ :: r => by
    show (true && PyData.canLayAll0 (r.map PyData.int)) = true
    rw [lay_ints r]; rfl
theorem depth_ints : ∀ (ns : List Int), PyData.depthAll (ns.map PyData.int) ≤ 1
  | [] => by simp [PyData.depthAll]
  | a :: r => by
    have := depth_ints r
    simp only [List.map_cons, PyData.depthAll, PyData.depth]
    omega
theorem list_ok (ns : List Int) : SeqAt.shaped (.list (ns.map PyData.int)) = true := by
  unfold SeqAt.shaped
  rw [Bool.and_eq_true]
  have h := depth_ints ns
  exact ⟨lay_ints ns, decide_eq_true (by simp only [PyData.depth]; omega)⟩
/-- the readings of list(..) and len(..), named -/
def topS (i : Nat) : Stmt := PySem.Challenge.pw_plandays_k28_products_of_polynomials.main.body.getD i (.Pass ⟨0, 0, 0, 0⟩)
abbrev s_value_at : Stmt := topS 1
theorem sc_value_at : FnScope ["poly", "n", "total", "ways", "j", "entry"] ["poly", "n"] (defScope s_value_at) := ⟨rfl, rfl, rfl, by decide +kernel, rfl, by decide +kernel, by decide +kernel⟩
abbrev s_without_zeros : Stmt := topS 2
theorem sc_without_zeros : FnScope ["poly", "many"] ["poly"] (defScope s_without_zeros) := ⟨rfl, rfl, rfl, by decide +kernel, rfl, by decide +kernel, by decide +kernel⟩
abbrev s_differences_of : Stmt := topS 3
theorem sc_differences_of : FnScope ["values", "found", "row", "value", "later"] ["values"] (defScope s_differences_of) := ⟨rfl, rfl, rfl, by decide +kernel, rfl, by decide +kernel, by decide +kernel⟩
abbrev s_one_earlier : Stmt := topS 4
theorem sc_one_earlier : FnScope ["differences", "earlier", "last", "difference"] ["differences"] (defScope s_one_earlier) := ⟨rfl, rfl, rfl, by decide +kernel, rfl, by decide +kernel, by decide +kernel⟩
abbrev s_polynomial_through : Stmt := topS 5
theorem sc_polynomial_through : FnScope ["begin", "values", "entries", "_"] ["begin", "values"] (defScope s_polynomial_through) := ⟨rfl, rfl, rfl, by decide +kernel, rfl, by decide +kernel, by decide +kernel⟩
abbrev s_product : Stmt := topS 6
theorem sc_product : FnScope ["one", "other", "places", "n"] ["one", "other"] (defScope s_product) := ⟨rfl, rfl, rfl, by decide +kernel, rfl, by decide +kernel, by decide +kernel⟩
abbrev s_law_is_integer : Stmt := topS 8
theorem sc_law_is_integer : FnScope ["found"] ["found"] (defScope s_law_is_integer) := ⟨rfl, rfl, rfl, by decide +kernel, rfl, by decide +kernel, by decide +kernel⟩
abbrev s_law_is_integers : Stmt := topS 9
theorem sc_law_is_integers : FnScope ["found", "entry"] ["found"] (defScope s_law_is_integers) := ⟨rfl, rfl, rfl, by decide +kernel, rfl, by decide +kernel, by decide +kernel⟩
abbrev s_law_spring : Stmt := topS 10
theorem sc_law_spring : FnScope ["cell", "low", "mixed", "k"] ["cell"] (defScope s_law_spring) := ⟨rfl, rfl, rfl, by decide +kernel, rfl, by decide +kernel, by decide +kernel⟩
abbrev s_law_draw : Stmt := topS 11
theorem sc_law_draw : FnScope ["spring", "many", "drawn"] ["spring", "many"] (defScope s_law_draw) := ⟨rfl, rfl, rfl, by decide +kernel, rfl, by decide +kernel, by decide +kernel⟩
abbrev s_law_value : Stmt := topS 12
theorem sc_law_value : FnScope ["terms", "at", "total", "binomial", "k"] ["terms", "at"] (defScope s_law_value) := ⟨rfl, rfl, rfl, by decide +kernel, rfl, by decide +kernel, by decide +kernel⟩
abbrev s_law_terms : Stmt := topS 13
theorem sc_law_terms : FnScope ["spring", "size", "most", "row", "k"] ["spring", "size"] (defScope s_law_terms) := ⟨rfl, rfl, rfl, by decide +kernel, rfl, by decide +kernel, by decide +kernel⟩
abbrev s_law_right : Stmt := topS 14
theorem sc_law_right : FnScope ["first", "second", "found", "at"] ["first", "second", "found"] (defScope s_law_right) := ⟨rfl, rfl, rfl, by decide +kernel, rfl, by decide +kernel, by decide +kernel⟩
abbrev s_law : Stmt := topS 15
theorem sc_law : FnScope ["script", "cells", "at", "spring", "twice", "size", "first", "second", "handed", "found", "more", "longer"] ["script"] (defScope s_law) := ⟨rfl, rfl, rfl, by decide +kernel, rfl, by decide +kernel, by decide +kernel⟩
/-- what the top has written, as the walks ask it -/
structure Tx (K : PySem.W.Frag) (mg : Str → Option Value) where
  f_value_at : Addr
  d_value_at : FuncData
  F_value_at : Fun K "value_at" "value_at" s_value_at f_value_at d_value_at
  b_value_at : Binds K d_value_at ["poly", "n"] []
  g_value_at : mg "value_at" = some (.ref f_value_at)
  f_without_zeros : Addr
  d_without_zeros : FuncData
  F_without_zeros : Fun K "without_zeros" "without_zeros" s_without_zeros f_without_zeros d_without_zeros
  b_without_zeros : Binds K d_without_zeros ["poly"] []
  g_without_zeros : mg "without_zeros" = some (.ref f_without_zeros)
  f_differences_of : Addr
  d_differences_of : FuncData
  F_differences_of : Fun K "differences_of" "differences_of" s_differences_of f_differences_of d_differences_of
  b_differences_of : Binds K d_differences_of ["values"] []
  g_differences_of : mg "differences_of" = some (.ref f_differences_of)
  f_one_earlier : Addr
  d_one_earlier : FuncData
  F_one_earlier : Fun K "_one_earlier" "_one_earlier" s_one_earlier f_one_earlier d_one_earlier
  b_one_earlier : Binds K d_one_earlier ["differences"] []
  g_one_earlier : mg "_one_earlier" = some (.ref f_one_earlier)
  f_polynomial_through : Addr
  d_polynomial_through : FuncData
  F_polynomial_through : Fun K "polynomial_through" "polynomial_through" s_polynomial_through f_polynomial_through d_polynomial_through
  b_polynomial_through : Binds K d_polynomial_through ["begin", "values"] []
  g_polynomial_through : mg "polynomial_through" = some (.ref f_polynomial_through)
  f_product : Addr
  d_product : FuncData
  F_product : Fun K "product" "product" s_product f_product d_product
  b_product : Binds K d_product ["one", "other"] []
  g_product : mg "product" = some (.ref f_product)
  f_law_is_integer : Addr
  d_law_is_integer : FuncData
  F_law_is_integer : Fun K "_law_is_integer" "_law_is_integer" s_law_is_integer f_law_is_integer d_law_is_integer
  b_law_is_integer : Binds K d_law_is_integer ["found"] []
  g_law_is_integer : mg "_law_is_integer" = some (.ref f_law_is_integer)
  f_law_is_integers : Addr
  d_law_is_integers : FuncData
  F_law_is_integers : Fun K "_law_is_integers" "_law_is_integers" s_law_is_integers f_law_is_integers d_law_is_integers
  b_law_is_integers : Binds K d_law_is_integers ["found"] []
  g_law_is_integers : mg "_law_is_integers" = some (.ref f_law_is_integers)
  f_law_spring : Addr
  d_law_spring : FuncData
  F_law_spring : Fun K "_law_spring" "_law_spring" s_law_spring f_law_spring d_law_spring
  b_law_spring : Binds K d_law_spring ["cell"] []
  g_law_spring : mg "_law_spring" = some (.ref f_law_spring)
  f_law_draw : Addr
  d_law_draw : FuncData
  F_law_draw : Fun K "_law_draw" "_law_draw" s_law_draw f_law_draw d_law_draw
  b_law_draw : Binds K d_law_draw ["spring", "many"] []
  g_law_draw : mg "_law_draw" = some (.ref f_law_draw)
  f_law_value : Addr
  d_law_value : FuncData
  F_law_value : Fun K "_law_value" "_law_value" s_law_value f_law_value d_law_value
  b_law_value : Binds K d_law_value ["terms", "at"] []
  g_law_value : mg "_law_value" = some (.ref f_law_value)
  f_law_terms : Addr
  d_law_terms : FuncData
  F_law_terms : Fun K "_law_terms" "_law_terms" s_law_terms f_law_terms d_law_terms
  b_law_terms : Binds K d_law_terms ["spring", "size"] []
  g_law_terms : mg "_law_terms" = some (.ref f_law_terms)
  f_law_right : Addr
  d_law_right : FuncData
  F_law_right : Fun K "_law_right" "_law_right" s_law_right f_law_right d_law_right
  b_law_right : Binds K d_law_right ["first", "second", "found"] []
  g_law_right : mg "_law_right" = some (.ref f_law_right)
  f_law : Addr
  d_law : FuncData
  F_law : Fun K "law" "law" s_law f_law d_law
  b_law : Binds K d_law ["script"] []
  g_law : mg "law" = some (.ref f_law)
  m_all : mg "all" = none
  m_bool : mg "bool" = none
  m_enumerate : mg "enumerate" = none
  m_int : mg "int" = none
  m_isinstance : mg "isinstance" = none
  m_len : mg "len" = none
  m_list : mg "list" = none
  m_range : mg "range" = none
  m_zip : mg "zip" = none
section
variable {P : Program} {w : World} {K : PySem.W.Frag} {mg : Str → Option Value} {base : Heap}
def sp_int : Sp := fun vs H Q _ => ∃ i, vs = [.int i] ∧ Q (.bl true) H
theorem ok_law_is_integer (T : Tx K mg) : FnOk P w K mg base CX0 1 T.f_law_is_integer T.d_law_is_integer ["found"] sp_int := by
  refine T.F_law_is_integer.ok sc_law_is_integer (fun vs H Q E h => ?_) (fun cdv A outer s H vs Q E hr h => ?_)
  · obtain ⟨i, rfl, _⟩ := h
    rfl
  · obtain ⟨i, rfl, k⟩ := h
    refine ⟨_,
    (pss_one
      (ps_ret (pe_and (pe_callB call_isi (by rfl) T.m_isinstance (by decide +kernel) (pa_cons (pv 0) (pa_cons (pe_bltn (v := .ty "int") (by rfl) T.m_int (by decide +kernel) rfl) pa_nil))) (pe_one (pe_not (pe_callB call_isi (by rfl) T.m_isinstance (by decide +kernel) (pa_cons (pv 0) (pa_cons (pe_bltn (v := .ty "bool") (by rfl) T.m_bool (by decide +kernel) rfl) pa_nil)))))))), ?_⟩
    refine ⟨_, rfl, _, _, _, _, true, rfl, .ty "int", .base (.int i), kit_ty (by decide +kernel), _, rfl, iteT ?_⟩
    exact ⟨_, rfl, _, _, _, _, false, rfl, .ty "bool", .base (.int i), kit_ty (by decide +kernel), _, rfl, k⟩
def sp_spring : Sp := fun vs H Q _ => ∃ c, vs = [.int c] ∧ ∀ p z, H p = none → 0 ≤ z → Q (.ref p) (upd H p (.lst [.int z]))
theorem ok_law_spring (T : Tx K mg) : FnOk P w K mg base CX0 1 T.f_law_spring T.d_law_spring ["cell"] sp_spring := by
  refine T.F_law_spring.ok sc_law_spring (fun vs H Q E h => ?_) (fun cdv A outer s H vs Q E hr h => ?_)
  · obtain ⟨c, rfl, _⟩ := h
    rfl
  · obtain ⟨c, rfl, k⟩ := h
    refine ⟨_,
    (pss_cons
      (ps_if (pt_cmpR op_ge (pv 0) (pe_op op_pow pe_int pe_int) (nomark _))
        (pss_one
          (ps_ret (pe_lst (pa_cons (pe_op op_sub (pv 0) (pe_op op_pow pe_int pe_int)) pa_nil))))
        pss_nil)
    (pss_cons
      (ps_set (i := 1) sc_law_spring.nd rfl (.inl rfl) (pe_op op_mod (pe_callTy call_int1 (by rfl) T.m_int (by decide +kernel) (pa_cons (pv 0) pa_nil)) pe_int))
    (pss_cons
      (ps_set (i := 2) sc_law_spring.nd rfl (.inl rfl) pe_int)
    (pss_cons
      (ps_for PassesOwn.never rfl (pi_range1 (by rfl) T.m_range (pa_cons pe_int pa_nil)) (pg_name (i := 3) sc_law_spring.nd rfl (.inl rfl))
        (pss_cons
          (ps_set (i := 1) sc_law_spring.nd rfl (.inl rfl) (pe_op op_mod (pe_callTy call_int1 (by rfl) T.m_int (by decide +kernel) (pa_cons (pe_op op_add (pe_op op_add (pe_op op_add (pe_op op_mul (pv 1) (pv 1)) (pe_op op_mul (pe_op op_add pe_int (pe_op op_mul pe_int (pv 3))) (pv 1))) (pe_op op_mul pe_int (pv 3))) pe_int) pa_nil)) pe_int))
        (pss_one
          (ps_set (i := 2) sc_law_spring.nd rfl (.inl rfl) (pe_op op_add (pe_op op_mul (pv 2) (pe_op op_pow pe_int pe_int)) (pe_op op_fdiv (pv 1) pe_int))))))
    (pss_one
      (ps_ret (pe_lst (pa_cons (pv 2) pa_nil)))))))), ?_⟩
    refine ⟨_, rfl, _, _, rfl, rfl, ⟨by decide, by decide, by decide⟩, _, _, rfl, rfl, _, rfl, ite2 (fun c1 => ?_) (fun _ => ?_)⟩
    · have h1 : (10 : Int) ^ (18 : Int).toNat ≤ c := of_decide_eq_true c1
      refine ⟨_, rfl, _, _, rfl, rfl, ⟨by decide, by decide, by decide⟩, _, _, rfl, rfl, (by show 1 ≤ sizeLine; decide), fun p hp => k p _ hp ?_⟩
      omega
    · refine ⟨_, rfl, .inl ⟨_, rfl, _, _, rfl, rfl, (by show (0 : Int) < 999999999999999989; decide), ?_⟩⟩
      have l0 : 0 ≤ c % 999999999999999989 := Int.emod_nonneg _ (by decide)
      have l1 : c % 999999999999999989 < 999999999999999989 := Int.emod_lt_of_pos _ (by decide)
      refine ⟨10, rfl, by decide, by decide, for_range (n := 10) (fun _ σ H' => ∃ l m x, 0 ≤ l ∧ l < 1000000000000000000 ∧ 0 ≤ m ∧ H' = H ∧ σ = [some (.int c), some (.int l), some (.int m), x]) ?_ ?_ ?_⟩
      · exact ⟨_, 0, none, l0, by omega, by omega, rfl, rfl⟩
      · rintro i σ H' hi ⟨l, m, x, h1, h2, h3, rfl, rfl⟩
        have bl : -(2 ^ 64) < l ∧ l < 2 ^ 64 := by constructor <;> omega
        refine ⟨_, rfl, _, rfl, _, _, rfl, rfl, .inl bl, _, rfl, _, _, rfl, rfl, .inl ⟨by decide, by decide⟩, _, _, rfl, rfl, _, rfl, _, _, rfl, rfl, .inr bl, _, _, rfl, rfl, _, rfl, _, _, rfl, rfl, .inl ⟨by decide, by decide⟩, _, _, rfl, rfl, _, _, rfl, rfl, .inl ⟨_, rfl, _, _, rfl, rfl, (by show (0 : Int) < 999999999999999877; decide), ?_⟩⟩
        refine ⟨_, rfl, _, _, rfl, rfl, ⟨by decide, by decide, by decide⟩, _, _, rfl, rfl, .inr ⟨by decide, by decide⟩, _, rfl, _, _, rfl, rfl, ⟨by decide, by decide⟩, _, _, rfl, rfl, ?_⟩
        refine ⟨_, _, _, Int.emod_nonneg _ (by decide), Int.lt_trans (Int.emod_lt_of_pos _ (by decide)) (by decide), ?_, rfl, rfl⟩
        have a1 : 0 ≤ m * (10 : Int) ^ (17 : Int).toNat := Int.mul_nonneg h3 (by decide)
        exact Int.add_nonneg a1 (Int.ediv_nonneg (Int.emod_nonneg _ (by decide)) (by decide))
      · rintro σ H' ⟨l, m, x, h1, h2, h3, rfl, rfl⟩
        exact ⟨_, rfl, (by show 1 ≤ sizeLine; decide), fun p hp => k p _ hp h3⟩
def sp_draw : Sp := fun vs H Q _ => ∃ p m z, vs = [.ref p, .int m] ∧ H p = some (.lst [.int z]) ∧ 0 ≤ z ∧ 0 < m ∧ m.natAbs.log2 < 9000 ∧ ∀ d y, 0 ≤ d → d < m → 0 ≤ y → Q (.int d) (upd H p (.lst [.int y]))
theorem ok_law_draw (T : Tx K mg) : FnOk P w K mg base CX0 1 T.f_law_draw T.d_law_draw ["spring", "many"] sp_draw := by
  refine T.F_law_draw.ok sc_law_draw (fun vs H Q E h => ?_) (fun cdv A outer s H vs Q E hr h => ?_)
  · obtain ⟨p, m, z, rfl, _⟩ := h
    rfl
  · obtain ⟨p, m, z, rfl, hp, hz, hm, hl, k⟩ := h
    refine ⟨_,
    (pss_cons
      (ps_set (i := 2) sc_law_draw.nd rfl (.inl rfl) (pe_op op_mod (pe_callTy call_int1 (by rfl) T.m_int (by decide +kernel) (pa_cons (pe_ix ix_list (pv 0) pe_int (fun _ _ => rfl)) pa_nil)) (pv 1)))
    (pss_cons
      (ps_asg (pe_op op_fdivW (pe_ix ix_list (pv 0) pe_int (fun _ _ => rfl)) (pv 1)) (pg_sub (pv 0) pe_int set_list))
    (pss_one
      (ps_ret (pv 2))))), ?_⟩
    refine ⟨_, rfl, p, _, _, _, rfl, rfl, .of hp, atI_nat (j := 0) rfl, .inl ⟨_, rfl, _, rfl, _, _, rfl, rfl, hm, ?_⟩⟩
    refine ⟨_, rfl, p, _, _, _, rfl, rfl, .of hp, atI_nat (j := 0) rfl, _, rfl, _, _, rfl, rfl, ⟨hm, hl⟩, _, rfl, p, _, _, 0, rfl, rfl, hp, rfl, ?_⟩
    exact ⟨_, rfl, k _ _ (Int.emod_nonneg _ (by omega)) (Int.emod_lt_of_pos _ hm) (Int.ediv_nonneg hz (by omega))⟩
/-! ### values of polynomials, walked -/
/-- sizes at which no step of the value is too long -/
def VOk (row : List Int) (n : Int) : Prop := ∃ B b : Nat, (∀ a ∈ row, a.natAbs < 2 ^ B) ∧ n.natAbs + row.length ≤ 2 ^ b ∧ 1 ≤ B ∧ 1 ≤ b ∧ B + b * row.length + b + 2 ≤ 900000 ∧ row.length ≤ 400
theorem VOk.ops {row : List Int} {n a : Int} {i : Nat} (h : VOk row n) (g : row[i]? = some a) : CMulW a (W n i) ∧ CMulW (W n i) (n - (0 + (i : Int))) ∧ CDivW (W n i * (n - (0 + (i : Int)))) (0 + (i : Int) + 1) := by
  obtain ⟨B, b, h1, h2, h3, h4, h5, h6⟩ := h
  have hi := (List.getElem?_eq_some_iff.mp g).1
  have ha := h1 a (List.mem_of_getElem? g)
  have hw : (W n i).natAbs ≤ 2 ^ (b * i) := W_size (by omega)
  have hb : b * i ≤ b * row.length := Nat.mul_le_mul_left _ (by omega)
  have hw2 : (W n i).natAbs < 2 ^ (b * i + 1) := Nat.lt_of_le_of_lt hw (Nat.pow_lt_pow_right (by decide) (by omega))
  have hn : (n - (0 + (i : Int))).natAbs < 2 ^ (b + 1) := Nat.lt_of_le_of_lt (by omega) (Nat.pow_lt_pow_right (by decide) (show b < b + 1 by omega))
  refine ⟨wide_mul ha hw2 (by omega) (by omega) (by omega), wide_mul hw2 hn (by omega) (by omega) (by omega), wide_div (b := 10) (by omega) ?_ (by decide) (by decide)⟩
  show _ < 1024
  omega
theorem W_go (n : Int) (i : Nat) : W n i * (n - (0 + (i : Int))) / (0 + (i : Int) + 1) = W n (i + 1) := by
  rw [Int.zero_add]
  exact W_div n i
def sp_value (K : PySem.W.Frag) : Sp := fun vs H Q _ => ∃ p row n, vs = [.ref p, .int n] ∧ SqL K H p (row.map V.int) ∧ VOk row n ∧ ∀ H', Same H H' → Q (.int (pol row n)) H'
theorem ok_value_at (T : Tx K mg) : FnOk P w K mg base CX0 1 T.f_value_at T.d_value_at ["poly", "n"] (sp_value K) := by
  refine T.F_value_at.ok sc_value_at (fun vs H Q E h => ?_) (fun cdv A outer s H vs Q E hr h => ?_)
  · obtain ⟨p, row, n, rfl, _⟩ := h
    rfl
  · obtain ⟨p, row, n, rfl, hS, hv, k⟩ := h
    refine ⟨_,
    (pss_cons
      (ps_set (i := 2) sc_value_at.nd rfl (.inl rfl) pe_int)
    (pss_cons
      (ps_set (i := 3) sc_value_at.nd rfl (.inl rfl) pe_int)
    (pss_cons
      (ps_for PassesOwn.never rfl (pi_enum (by rfl) T.m_enumerate (pa_cons (pv 0) pa_nil)) (pg_tup (by rfl) (pgs_cons (pg_name (i := 4) sc_value_at.nd rfl (.inl rfl)) (pgs_cons (pg_name (i := 5) sc_value_at.nd rfl (.inl rfl)) pgs_nil)))
        (pss_cons
          (ps_set (i := 2) sc_value_at.nd rfl (.inl rfl) (pe_op op_add (pv 2) (pe_op op_mulW (pv 5) (pv 3))))
        (pss_one
          (ps_set (i := 3) sc_value_at.nd rfl (.inl rfl) (pe_op op_fdivW (pe_op op_mulW (pv 3) (pe_op op_sub (pv 1) (pv 4))) (pe_op op_add (pv 4) pe_int))))))
    (pss_one
      (ps_ret (pv 2)))))), ?_⟩
    refine ⟨_, rfl, p, _, rfl, hS, for_enum (xs := row.map V.int) (fun i σ H' => Same H H' ∧ ∃ x4 x5, σ = [some (.ref p), some (.int n), some (.int (pol (row.take i) n)), some (.int (W n i)), x4, x5]) ?_ ?_ ?_ ?_⟩
    · exact ⟨Same.refl H, none, none, rfl⟩
    · rintro i σ H' _ ⟨sm, _⟩
      exact sm.seq hS
    · rintro i x σ H1 U hi ⟨sm, x4, x5, rfl⟩ hU
      rw [List.getElem?_map] at hi
      obtain ⟨a, ha, rfl⟩ := Option.map_eq_some_iff.mp hi
      obtain ⟨c1, c2, c3⟩ := hv.ops ha
      rw [Int.zero_add] at c2 c3
      refine ⟨U, _, rfl, .of upd_same, rfl, _, _, rfl, _, _, rfl, rfl, _, rfl, _, rfl, _, rfl, _, _, rfl, rfl, c1, _, _, rfl, rfl, ?_⟩
      refine ⟨_, rfl, _, rfl, _, rfl, _, _, rfl, rfl, _, _, rfl, rfl, c2, _, rfl, _, _, rfl, rfl, _, _, rfl, rfl, c3, ?_⟩
      refine ⟨sm.trans (same_upd hU), some (V.int (i : Nat)), some (V.int a), ?_⟩
      rw [pol_take ha, ← W_div]
      rfl
    · rintro σ H1 ⟨sm, x4, x5, rfl⟩
      rw [List.length_map, List.take_of_length_le (Nat.le_refl _)]
      exact ⟨_, rfl, k H1 sm⟩
theorem kb_value_at (T : Tx K mg) : KBn K T.d_value_at ["poly", "n"] 0 ["poly", "n"] (fun _ ws => ws) (fun _ zs => zs) := by
  obtain ⟨oc, od, kV, doc, pm, an, cdv, ct, osl, e, _, _⟩ := T.F_value_at.ex
  refine ⟨fun s us ws _ h1 h2 => ?_, fun _ r => r⟩
  rw [e]
  match us, ws, h1, h2 with
  | [], [_, _], _, _ => exact BindsTo.of_eq rfl
/-! ### polynomials walked: without zeros, differences, products -/
theorem map_take_int (r : List Int) (m : Nat) : cutV (r.map V.int) none (some (m : Int)) = (r.take m).map V.int := (cut_take _ m).trans List.map_take.symm
theorem trim_take {r : List Int} {m : Nat} (hm : m < r.length) (h0 : r[m]? = some 0) (h : trim (r.take (m + 1)) = trim r) : trim (r.take m) = trim r := by
  rw [← h, List.take_add_one, h0]
  exact (trim_snoc0 _).symm
theorem trim_done {r : List Int} {m : Nat} {a : Int} (hm : m < r.length) (ha : r[m]? = some a) (h0 : a ≠ 0) (h : trim (r.take (m + 1)) = trim r) : trim r = r.take (m + 1) := by
  rw [← h, List.take_add_one, ha]
  exact trim_snoc _ h0
def sp_trim (K : PySem.W.Frag) : Sp := fun vs H Q _ => ∃ p r, vs = [.ref p] ∧ SqL K H p (r.map V.int) ∧ r.length ≤ 900 ∧ ∀ q, H q = none → Q (.ref q) (upd H q (.lst ((trim r).map V.int)))
theorem ok_without_zeros (T : Tx K mg) : FnOk P w K mg base CX0 1 T.f_without_zeros T.d_without_zeros ["poly"] (sp_trim K) := by
  refine T.F_without_zeros.ok sc_without_zeros (fun vs H Q E h => ?_) (fun cdv A outer s H vs Q E hr h => ?_)
  · obtain ⟨p, r, rfl, _⟩ := h
    rfl
  · obtain ⟨p, r, rfl, hS, hl, k⟩ := h
    refine ⟨_,
    (pss_cons
      (ps_set (i := 1) sc_without_zeros.nd rfl (.inl rfl) (pe_callB call_len_seq (by rfl) T.m_len (by decide +kernel) (pa_cons (pv 0) pa_nil)))
    (pss_cons
      (ps_while PassesOwn.never (PW.pt (pw_and (pt_cmpR op_gt (pv 1) pe_int (nomark _)) (pw_and1 (pt_cmpR op_eq (pe_ix ix_list (pv 0) (pe_op op_sub (pv 1) pe_int) (fun _ _ => rfl)) pe_int (nomark _)))))
        (pss_one
          (ps_aug (i := 1) sc_without_zeros.nd rfl (.inl rfl) pe_int ip_sub)))
    (pss_one
      (ps_ret (pe_slice sl_list (pv 0) po_none (po_some (pv 1))))))), ?_⟩
    refine ⟨_, rfl, p, _, rfl, .inl hS, ?_⟩
    rw [List.length_map]
    refine ⟨fun t σ H' => H' = H ∧ t ≤ r.length ∧ trim (r.take t) = trim r ∧ σ = [some (.ref p), some (.int (t : Int))], ⟨r.length, rfl, Nat.le_refl _, by rw [List.take_length], rfl⟩, ?_⟩
    rintro t σ H1 ⟨rfl, ht, e, rfl⟩
    refine ⟨_, rfl, _, _, rfl, rfl, _, rfl, ite2 (fun c1 => ?_) (fun c1 => ?_)⟩
    · have t0 : (0 : Int) < (t : Int) := of_decide_eq_true c1
      obtain ⟨m, rfl⟩ : ∃ m, t = m + 1 := ⟨t - 1, by omega⟩
      have hm : m < r.length := by omega
      have ga : r[m]? = some r[m] := List.getElem?_eq_getElem hm
      have gv : (r.map V.int)[m]? = some (V.int r[m]) := by rw [List.getElem?_map, ga]; rfl
      refine ⟨_, rfl, _, rfl, _, _, rfl, rfl, p, _, _, _, rfl, rfl, hS, at_of (j := m) (by omega) gv, rfl, _, rfl, ite2 (fun c2 => ?_) (fun c2 => ?_)⟩
      · have z : r[m] = 0 := V.int.inj (of_decide_eq_true c2)
        refine ⟨fun σ' H' => H' = H1 ∧ σ' = [some (.ref p), some (.int (m : Int))], fun σ' H' ⟨h1, h2⟩ => ⟨m, Nat.lt_succ_self m, h1, by omega, trim_take hm (by rw [ga, z]) e, h2⟩, ?_⟩
        refine ⟨_, rfl, _, _, rfl, rfl, rfl, ?_⟩
        show [some (V.ref p), some (V.int (((m + 1 : Nat) : Int) - 1))] = _
        rw [show ((m + 1 : Nat) : Int) - 1 = (m : Int) by omega]
      · have z : r[m] ≠ 0 := fun z => c2 (decide_eq_true (congrArg V.int z))
        rw [trim_done hm ga z e] at k
        refine ⟨_, rfl, _, rfl, _, rfl, p, _, rfl, hS, fun q hq => ?_⟩
        rw [map_take_int]
        exact k q hq
    · have t0 : t = 0 := by
        have : ¬ (0 : Int) < (t : Int) := fun z => c1 (decide_eq_true z)
        omega
      subst t0
      have e2 : trim r = r.take 0 := by rw [← e]; rfl
      rw [e2] at k
      refine ⟨_, rfl, _, rfl, _, rfl, p, _, rfl, hS, fun q hq => ?_⟩
      rw [show cutV (r.map V.int) none (some ((0 : Nat) : Int)) = (r.take 0).map V.int from map_take_int r 0]
      exact k q hq
/-- a list of ints given out: new, all else as it was -/
def Out (K : PySem.W.Frag) (H : Hp) (Q : VK) (r : List Int) : Prop := ∀ q H', H q = none → Same H H' → H' q = some (.lst (r.map V.int)) → Q (.ref q) H'
theorem difs_len (j : Nat) (r : List Int) : (difs j r).length ≤ j := by
  induction j generalizing r with
  | zero => exact Nat.le_refl _
  | succ j ih =>
    show (r.take 1 ++ difs j (nbr r)).length ≤ j + 1
    have := ih (nbr r)
    rw [List.length_append, List.length_take]
    omega
theorem nbr_get {r : List Int} {i : Nat} {x y : Int} (hx : r[i]? = some x) (hy : r[i + 1]? = some y) : (nbr r).take (i + 1) = (nbr r).take i ++ [y - x] := by
  rw [List.take_add_one]
  congr 1
  unfold nbr
  rw [List.getElem?_zipWith, hx, List.getElem?_drop, Nat.add_comm 1 i, hy]
  rfl
def sp_difs (K : PySem.W.Frag) : Sp := fun vs H Q _ => ∃ p r, vs = [.ref p] ∧ H p = some (.lst (r.map V.int)) ∧ r.length ≤ 900 ∧ Out K H Q (difs r.length r)
theorem ok_differences_of (T : Tx K mg) : FnOk P w K mg base CX0 1 T.f_differences_of T.d_differences_of ["values"] (sp_difs K) := by
  refine T.F_differences_of.ok sc_differences_of (fun vs H Q E h => ?_) (fun cdv A outer s H vs Q E hr h => ?_)
  · obtain ⟨p, r, rfl, _⟩ := h
    rfl
  · obtain ⟨p, r, rfl, hS, hl, k⟩ := h
    refine ⟨_,
    (pss_cons
      (ps_set (i := 1) sc_differences_of.nd rfl (.inl rfl) (pe_lst pa_nil))
    (pss_cons
      (ps_set (i := 2) sc_differences_of.nd rfl (.inl rfl) (pv 0))
    (pss_cons
      (ps_while PassesOwn.never (pt_truth (pv 2) (by intro _; rfl))
        (pss_cons
          (ps_expr (pe_bm PySem.F.plainAttrs_list PySem.F.slot_list_append PySem.F.type_list_append mt_append (pv 1) (pa_cons (pe_ix ix_list (pv 2) pe_int (fun _ _ => rfl)) pa_nil)))
        (pss_one
          (ps_setLc (i := 2) (own := [("value", 3), ("later", 4)]) (g := gTup K 2 (gCons (gName 3) (gCons (gName 4) gNil))) rfl sc_differences_of.nd rfl rfl (sw_true rfl rfl rfl (by decide +kernel)) (pi_zip (by rfl) T.m_zip (pa_cons (pv 2) (pa_cons (pe_slice sl_list (pv 2) (po_some pe_int) po_none) pa_nil))) (blkOk_by (N := ["values", "found", "row", "value", "later"]) (sc := defScope s_differences_of) (own := [("value", 3), ("later", 4)]) (by decide +kernel)) (fun _ _ _ _ _ => (pg_tupK (K := K) rfl (by rfl) (pgs_cons (pg_name (i := 3) sc_differences_of.nd rfl (.inl rfl)) (pgs_cons (pg_name (i := 4) sc_differences_of.nd rfl (.inl rfl)) pgs_nil)))) (fun _ _ _ _ _ => pts_nil) (fun _ _ _ _ _ => (pe_op op_sub (pv 4) (pv 3)))))))
    (pss_one
      (ps_ret (pv 1)))))), ?_⟩
    refine ⟨Nat.zero_le _, fun D hD => ⟨_, rfl, ?_⟩⟩
    refine ⟨fun t σ H' => ∃ (j : Nat) (R : Addr) (x3 x4 : Option V), j + t = r.length ∧ σ = [some (.ref p), some (.ref D), some (.ref R), x3, x4] ∧ Same H H' ∧ H' D = some (.lst ((difs j r).map V.int)) ∧ H' R = some (.lst ((rowD j r).map V.int)) ∧ R ≠ D,
      ⟨_, 0, p, none, none, Nat.zero_add _, rfl, same_upd hD, upd_same, same_upd hD _ _ hS, ne_of_none hS hD⟩, ?_⟩
    rintro t σ H1 ⟨j, R, x3, x4, hj, rfl, sm, eD, hR, RD⟩
    have hlr := rowD_length j r
    have hld := difs_len j r
    refine ⟨_, rfl, _, .inl ⟨_, .of hR, rfl⟩, ?_⟩
    cases hrow : rowD j r with
    | nil =>
      rw [hrow] at hlr
      obtain rfl : t = 0 := by simp at hlr; omega
      obtain rfl : j = r.length := by omega
      exact ⟨_, rfl, k D H1 hD sm eD⟩
    | cons a rest =>
      have t0 : 0 < t := by rw [hrow] at hlr; simp at hlr; omega
      refine ⟨fun σ' H' => ∃ (R : Addr) (x3 x4 : Option V), σ' = [some (.ref p), some (.ref D), some (.ref R), x3, x4] ∧ Same H H' ∧ H' D = some (.lst ((difs (j + 1) r).map V.int)) ∧ H' R = some (.lst ((rowD (j + 1) r).map V.int)) ∧ R ≠ D,
        fun σ' H' ⟨R, x3, x4, h⟩ => ⟨t - 1, by omega, j + 1, R, x3, x4, by omega, h⟩, ?_⟩
      refine ⟨_, rfl, .inl ⟨rfl, _, .of eD⟩, _, rfl, R, _, _, _, rfl, rfl, .of hR, (by rw [hrow]; exact atI_nat (j := 0) rfl), D, _, _, rfl, rfl, eD, ?_, ?_⟩
      · rw [List.length_map]; exact small1000 (by omega)
      have eD2 : (upd H1 D (.lst ((difs j r).map V.int ++ [V.int a]))) D = some (.lst ((difs (j + 1) r).map V.int)) := by
        rw [upd_same, difs_snoc, hrow, List.map_append]; rfl
      have eR2 : (upd H1 D (.lst ((difs j r).map V.int ++ [V.int a]))) R = some (.lst ((rowD j r).map V.int)) := by rw [upd_ne RD]; exact hR
      have sm2 : Same H (upd H1 D (.lst ((difs j r).map V.int ++ [V.int a]))) := fun b o e => by rw [upd_ne (ne_of_none e hD)]; exact sm b o e
      generalize upd H1 D (.lst ((difs j r).map V.int ++ [V.int a])) = H2 at eD2 eR2 sm2 ⊢
      have lrow : (rowD j r).length = (rest.length + 1) := by rw [hrow]; rfl
      refine ⟨_, rfl, _, rfl, _, rfl, R, _, rfl, .of eR2, fun Y hY => ⟨R, Y, (rowD j r).map V.int, ((rowD j r).drop 1).map V.int, rfl, .of (same_upd hY _ _ eR2), ?_, fun D2 hD2 => ?_⟩⟩
      · rw [show cutV ((rowD j r).map V.int) (some 1) none = ((rowD j r).drop 1).map V.int from (cut_drop _ 1).trans List.map_drop.symm]; exact .of upd_same
      rw [show cutV ((rowD j r).map V.int) (some 1) none = ((rowD j r).drop 1).map V.int from (cut_drop _ 1).trans List.map_drop.symm] at *
      have s3 := (same_upd (o := .lst (((rowD j r).drop 1).map V.int)) hY)
      have eY := (upd_same (H := H2) (a := Y) (o := .lst (((rowD j r).drop 1).map V.int)))
      generalize upd H2 Y (.lst (((rowD j r).drop 1).map V.int)) = H3 at s3 eY hD2 ⊢
      refine lc_it (walk_zip (xs := (rowD j r).map V.int) (ys := ((rowD j r).drop 1).map V.int) (n := rest.length) (by rw [List.length_map, List.length_map, List.length_drop]; omega)) (fun i H' => Same H3 H' ∧ H' D2 = some (.lst (((nbr (rowD j r)).take i).map V.int))) ?_ ?_ ?_ ?_
      · exact ⟨same_upd hD2, upd_same⟩
      · rintro i H' _ ⟨s4, _⟩
        exact ⟨.of (s4 _ _ (s3 _ _ eR2)), .of (s4 _ _ eY)⟩
      · rintro i x H4 H5 hi ⟨s4, e4⟩ ⟨U, u, v, rfl, hU, rfl, hu, hv⟩
        have hu : ((rowD j r).map V.int)[i]? = some u := hu
        have hv : (((rowD j r).drop 1).map V.int)[i]? = some v := hv
        rw [List.getElem?_map] at hu hv
        obtain ⟨u', hu', rfl⟩ := Option.map_eq_some_iff.mp hu
        obtain ⟨v', hv', rfl⟩ := Option.map_eq_some_iff.mp hv
        rw [List.getElem?_drop, Nat.add_comm] at hv'
        have s5 := s4.trans (same_upd (o := .tup [.int u', .int v']) hU)
        refine ⟨U, _, rfl, .of upd_same, rfl, _, _, rfl, _, _, rfl, rfl, rfl, _, rfl, _, rfl, _, _, rfl, rfl, _, same_upd hU _ _ e4, ?_, ?_, ?_⟩
        · rw [List.length_map, List.length_take]; exact small1000 (by omega)
        · intro b o e
          rw [upd_ne (ne_of_none e hD2)]
          exact s5 b o e
        · rw [upd_same, nbr_get hu' hv', List.map_append]; rfl
      · rintro H4 ⟨s4, e4⟩
        have s14 := s3.trans s4
        rw [List.take_of_length_le (by rw [nbr_length]; omega), ← rowD_succ] at e4
        exact ⟨D2, x3, x4, rfl, sm2.trans s14, s14 _ _ eD2, e4, (ne_of_none (s3 _ _ eD2) hD2).symm⟩
theorem earl_step {r : List Int} {i : Nat} {a : Int} (hi : i < r.length) (ha : r[r.length - 1 - i]? = some a) : earl (r.drop (r.length - (i + 1))) = (a - (earl (r.drop (r.length - i))).headD 0) :: earl (r.drop (r.length - i)) := by
  obtain ⟨h1, h2⟩ := List.getElem?_eq_some_iff.mp ha
  have e : r.drop (r.length - (i + 1)) = a :: r.drop (r.length - i) := by
    have h3 : r.length - (i + 1) = r.length - 1 - i := by omega
    rw [h3, List.drop_eq_getElem_cons h1, h2, show r.length - 1 - i + 1 = r.length - i by omega]
  rw [e]
  rfl
def sp_earl (K : PySem.W.Frag) : Sp := fun vs H Q _ => ∃ p r, vs = [.ref p] ∧ SqL K H p (r.map V.int) ∧ r.length ≤ 900 ∧ Out K H Q (earl r)
theorem ok_one_earlier (T : Tx K mg) : FnOk P w K mg base CX0 1 T.f_one_earlier T.d_one_earlier ["differences"] (sp_earl K) := by
  refine T.F_one_earlier.ok sc_one_earlier (fun vs H Q E h => ?_) (fun cdv A outer s H vs Q E hr h => ?_)
  · obtain ⟨p, r, rfl, _⟩ := h
    rfl
  · obtain ⟨p, r, rfl, hS, hl, k⟩ := h
    refine ⟨_,
    (pss_cons
      (ps_set (i := 1) sc_one_earlier.nd rfl (.inl rfl) (pe_lst pa_nil))
    (pss_cons
      (ps_set (i := 2) sc_one_earlier.nd rfl (.inl rfl) pe_int)
    (pss_cons
      (ps_for PassesOwn.never rfl (pi_list (pe_revL (pv 0))) (pg_name (i := 3) sc_one_earlier.nd rfl (.inl rfl))
        (pss_cons
          (ps_set (i := 2) sc_one_earlier.nd rfl (.inl rfl) (pe_op op_sub (pv 3) (pv 2)))
        (pss_one
          (ps_expr (pe_bm PySem.F.plainAttrs_list PySem.F.slot_list_append PySem.F.type_list_append mt_append (pv 1) (pa_cons (pv 2) pa_nil))))))
    (pss_one
      (ps_ret (pe_revL (pv 1))))))), ?_⟩
    refine ⟨Nat.zero_le _, fun D hD => ?_⟩
    refine ⟨_, rfl, p, _, rfl, (same_upd hD).seq hS, fun R hR => ⟨R, rfl, ⟨_, .of upd_same⟩, ?_⟩⟩
    have s1 := (same_upd (o := .lst []) hD).trans (same_upd (o := .lst (r.map V.int).reverse) hR)
    have eD := same_upd (o := .lst (r.map V.int).reverse) hR _ _ (upd_same (H := H) (a := D) (o := .lst []))
    have eR := upd_same (H := upd H D (.lst [])) (a := R) (o := .lst (r.map V.int).reverse)
    have RD : R ≠ D := (ne_of_none (upd_same (H := H) (a := D) (o := .lst [])) hR).symm
    generalize upd (upd H D (.lst [])) R (.lst (r.map V.int).reverse) = H1 at *
    refine for_list (xs := (r.map V.int).reverse) (fun i σ H' => Same H H' ∧ H' R = some (.lst (r.map V.int).reverse) ∧ H' D = some (.lst ((earl (r.drop (r.length - i))).reverse.map V.int)) ∧ ∃ x3, σ = [some (.ref p), some (.ref D), some (.int ((earl (r.drop (r.length - i))).headD 0)), x3]) ?_ ?_ ?_ ?_
    · refine ⟨s1, eR, ?_, none, ?_⟩
      · rw [Nat.sub_zero, List.drop_length]; exact eD
      · rw [Nat.sub_zero, List.drop_length]; rfl
    · rintro i σ H' _ ⟨_, e, _⟩
      exact .of e
    · rintro i x σ H2 hi ⟨s2, eR2, eD2, x3, rfl⟩
      have hil := (List.getElem?_eq_some_iff.mp hi).1
      rw [List.length_reverse, List.length_map] at hil
      rw [List.getElem?_reverse (by rw [List.length_map]; exact hil), List.getElem?_map, List.length_map] at hi
      obtain ⟨a, ha, rfl⟩ := Option.map_eq_some_iff.mp hi
      have st := earl_step hil ha
      refine ⟨_, rfl, _, rfl, _, _, rfl, rfl, _, rfl, .inl ⟨rfl, _, .of eD2⟩, _, rfl, D, _, _, rfl, rfl, eD2, ?_, ?_, ?_, ?_, some (V.int a), ?_⟩
      · rw [List.length_map, List.length_reverse, earl_length, List.length_drop]; exact small1000 (by omega)
      · intro b o e
        rw [upd_ne (ne_of_none e hD)]
        exact s2 b o e
      · rw [upd_ne RD]; exact eR2
      · rw [upd_same, st, List.reverse_cons, List.map_append]; rfl
      · rw [st]; rfl
    · rintro σ H2 ⟨s2, eR2, eD2, x3, rfl⟩
      rw [List.length_reverse, List.length_map, Nat.sub_self] at eD2
      refine ⟨_, rfl, D, _, rfl, .of eD2, fun q hq => k q _ ?_ (s2.trans (same_upd hq)) ?_⟩
      · cases hz : H q with
        | none => rfl
        | some o => rw [s2 _ _ hz] at hq; cases hq
      · rw [upd_same, List.map_reverse, List.reverse_reverse]; rfl
theorem fresh_of {H H' : Hp} {q : Addr} (s : Same H H') (h : H' q = none) : H q = none := by
  cases hz : H q with
  | none => rfl
  | some o => rw [s _ _ hz] at h; cases h
def sp_thru (K : PySem.W.Frag) : Sp := fun vs H Q _ => ∃ (b : Nat) (p : Addr) (r : List Int), vs = [.int (b : Int), .ref p] ∧ H p = some (.lst (r.map V.int)) ∧ r.length ≤ 900 ∧ b ≤ 900 ∧ Out K H Q (thru b r)
theorem ok_polynomial_through (T : Tx K mg) : FnOk P w K mg base CX0 2 T.f_polynomial_through T.d_polynomial_through ["begin", "values"] (sp_thru K) := by
  refine T.F_polynomial_through.ok sc_polynomial_through (fun vs H Q E h => ?_) (fun cdv A outer s H vs Q E hr h => ?_)
  · obtain ⟨b, p, r, rfl, _⟩ := h
    rfl
  · obtain ⟨b, p, r, rfl, hS, hl, hb, k⟩ := h
    refine ⟨_,
    (pss_cons
      (ps_set (i := 2) sc_polynomial_through.nd rfl (.inl rfl) (pe_call (ok_differences_of T) hr (by rfl) T.g_differences_of T.F_differences_of.kp T.b_differences_of .nil pass0 (pa_cons (pv 1) pa_nil)))
    (pss_cons
      (ps_for PassesOwn.never rfl (pi_range1 (by rfl) T.m_range (pa_cons (pv 0) pa_nil)) (pg_name (i := 3) sc_polynomial_through.nd rfl (.inl rfl))
        (pss_one
          (ps_set (i := 2) sc_polynomial_through.nd rfl (.inl rfl) (pe_call (ok_one_earlier T) hr (by rfl) T.g_one_earlier T.F_one_earlier.kp T.b_one_earlier .nil pass0 (pa_cons (pv 2) pa_nil)))))
    (pss_one
      (ps_ret (pe_call (ok_without_zeros T) hr (by rfl) T.g_without_zeros T.F_without_zeros.kp T.b_without_zeros .nil pass0 (pa_cons (pv 2) pa_nil)))))), ?_⟩
    refine ⟨_, rfl, p, r, rfl, hS, hl, fun R H1 hR s1 eR => ?_⟩
    have hd : (difs r.length r).length = r.length := difs_length _ r rfl
    refine ⟨_, rfl, _, rfl, ?_, ?_, for_range (n := _) (fun i σ H' => ∃ (R : Addr) (x3 : Option V), H R = none ∧ Same H H' ∧ H' R = some (.lst ((earls i (difs r.length r)).map V.int)) ∧ σ = [some (.int (b : Int)), some (.ref p), some (.ref R), x3]) ?_ ?_ ?_⟩
    · omega
    · omega
    · exact ⟨R, none, hR, s1, eR, rfl⟩
    · rintro i σ H2 hi ⟨R, x3, hR, s2, eR, rfl⟩
      refine ⟨_, rfl, R, _, rfl, .of eR, by rw [earls_length, hd]; exact hl, fun R2 H3 hR2 s3 eR2 => ⟨R2, some (V.int (0 + (i : Int))), fresh_of s2 hR2, s2.trans s3, eR2, rfl⟩⟩
    · rintro σ H2 ⟨R, x3, hR, s2, eR, rfl⟩
      rw [Int.toNat_natCast] at eR
      refine ⟨_, rfl, R, _, rfl, .of eR, by rw [earls_length, hd]; exact hl, fun q hq => k q _ (fresh_of s2 hq) (s2.trans (same_upd hq)) ?_⟩
      rw [upd_same]; rfl
def sp_prod (K : PySem.W.Frag) : Sp := fun vs H Q _ => ∃ (a c : Addr) (r s : List Int) (B : Nat), vs = [.ref a, .ref c] ∧ H a = some (.lst (r.map V.int)) ∧ H c = some (.lst (s.map V.int)) ∧ POk B r s ∧ Out K H Q (prodL r s)
theorem POk.v1 {B : Nat} {r s : List Int} (h : POk B r s) {n : Int} (hn : n.natAbs ≤ 300) : VOk r n := by
  obtain ⟨h1, h2, h3, h4, h5, h6⟩ := h
  exact ⟨B, 9, h1, by show _ ≤ 512; omega, h3, by decide, by omega, by omega⟩
theorem POk.symm {B : Nat} {r s : List Int} (h : POk B r s) : POk B s r := by
  obtain ⟨h1, h2, h3, h4, h5, h6⟩ := h
  exact ⟨h2, h1, h3, h4, h6, h5⟩
theorem POk.mulW {B : Nat} {r s : List Int} (h : POk B r s) {n : Int} (hn : n.natAbs ≤ 300) : CMulW (pol r n) (pol s n) := by
  obtain ⟨a1, a2⟩ := h.pols hn
  have := h.2.2.2.1
  exact wide_mul a1 a2 (by omega) (by omega) (by omega)
theorem ok_product (T : Tx K mg) : FnOk P w K mg base CX0 3 T.f_product T.d_product ["one", "other"] (sp_prod K) := by
  refine T.F_product.ok sc_product (fun vs H Q E h => ?_) (fun cdv A outer s H vs Q E hr h => ?_)
  · obtain ⟨a, c, r, s, B, rfl, _⟩ := h
    rfl
  · obtain ⟨a, c, r, s, B, rfl, ha, hc, hp, k⟩ := h
    refine ⟨_,
    (pss_cons
      (ps_set (i := 2) sc_product.nd rfl (.inl rfl) (pe_callTy cr_range1 (by rfl) T.m_range (by decide +kernel) (pa_cons (pe_op op_add (pe_callB call_len_seq (by rfl) T.m_len (by decide +kernel) (pa_cons (pv 0) pa_nil)) (pe_callB call_len_seq (by rfl) T.m_len (by decide +kernel) (pa_cons (pv 1) pa_nil))) pa_nil)))
    (pss_one
      (ps_ret (pe_call (ok_polynomial_through T) hr (by rfl) T.g_polynomial_through T.F_polynomial_through.kp T.b_polynomial_through .nil pass0 (pa_cons pe_int (pa_cons (pe_lc (own := [("n", 3)]) (g := gName 3) rfl sc_product.nd (pi_rngV (pv 2)) (blkOk_by (N := ["one", "other", "places", "n"]) (sc := defScope s_product) (own := [("n", 3)]) (by decide +kernel)) (fun _ _ _ _ _ => (pg_name (i := 3) sc_product.nd rfl (.inl rfl))) (fun _ _ _ _ _ => pts_nil) (fun _ _ _ _ _ => (pe_op op_mulW (pe_call (ok_value_at T) (hr.mono (by decide)) (by rfl) T.g_value_at T.F_value_at.kp T.b_value_at .nil pass0 (pa_cons (pv 0) (pa_cons (pv 3) pa_nil))) (pe_call (ok_value_at T) (hr.mono (by decide)) (by rfl) T.g_value_at T.F_value_at.kp T.b_value_at .nil pass0 (pa_cons (pv 1) (pa_cons (pv 3) pa_nil)))))) pa_nil)))))), ?_⟩
    have h5 := hp.2.2.2.2.1
    have h6 := hp.2.2.2.2.2
    refine ⟨_, rfl, a, _, rfl, .inl (.of ha), _, rfl, c, _, rfl, .inl (.of hc), _, _, rfl, rfl, _, rfl, fun R hR => ?_⟩
    rw [List.length_map, List.length_map]
    refine ⟨_, rfl, R, _, _, rfl, upd_same, ⟨by decide, by decide, by omega, by omega⟩, fun D hD => ?_⟩
    have s1 := same_upd (o := .rng 0 ((r.length : Int) + (s.length : Int))) hR
    generalize upd H R (.rng 0 ((r.length : Int) + (s.length : Int))) = H1 at *
    refine lc_range (lo := 0) (n := _) (fun i H' => Same H1 H' ∧ H' D = some (.lst ((vals i (fun x => pol r x * pol s x) ((0 : Nat) : Int)).map V.int))) ?_ ?_ ?_
    · exact ⟨same_upd hD, upd_same⟩
    · rintro i H2 hi ⟨s2, e2⟩
      have hi2 : i < r.length + s.length := by omega
      have hn : (0 + (i : Int)).natAbs ≤ 300 := by omega
      have s12 := s1.trans s2
      refine ⟨rfl, _, rfl, _, rfl, a, r, _, rfl, .of (s12 _ _ ha), hp.v1 hn, fun H3 s3 => ⟨_, rfl, _, rfl, c, s, _, rfl, .of (s3 _ _ (s12 _ _ hc)), hp.symm.v1 hn, fun H4 s4 => ⟨_, _, rfl, rfl, hp.mulW hn, _, s4 _ _ (s3 _ _ e2), ?_, ?_, ?_⟩⟩⟩
      · rw [List.length_map, vals_length]; exact small1000 (by omega)
      · intro b o e
        rw [upd_ne (ne_of_none e hD)]
        exact s4 _ _ (s3 _ _ (s2 _ _ e))
      · rw [upd_same]
        have : vals (i + 1) (fun x => pol r x * pol s x) ((0 : Nat) : Int) = vals i (fun x => pol r x * pol s x) ((0 : Nat) : Int) ++ [pol r (0 + (i : Int)) * pol s (0 + (i : Int))] := by
          unfold vals
          rw [List.range_succ, List.map_append]
          rfl
        rw [this, List.map_append]
        rfl
    · rintro H2 ⟨s2, e2⟩
      have hn : ((r.length : Int) + (s.length : Int) - 0).toNat = r.length + s.length := by omega
      rw [hn] at e2
      refine ⟨0, D, _, rfl, e2, by rw [vals_length]; omega, by decide, fun q H3 hq s3 e3 => k q H3 (fresh_of (s1.trans s2) hq) ((s1.trans s2).trans s3) e3⟩
theorem kb_product (T : Tx K mg) : KBn K T.d_product ["one", "other"] 0 ["one", "other"] (fun _ ws => ws) (fun _ zs => zs) := by
  obtain ⟨oc, od, kV, doc, pm, an, cdv, ct, osl, e, _, _⟩ := T.F_product.ex
  refine ⟨fun s us ws _ h1 h2 => ?_, fun _ r => r⟩
  rw [e]
  match us, ws, h1, h2 with
  | [], [_, _], _, _ => exact BindsTo.of_eq rfl
def sp_lvalue (K : PySem.W.Frag) : Sp := fun vs H Q _ => ∃ p row n, vs = [.ref p, .int n] ∧ SqL K H p (row.map V.int) ∧ VOk row n ∧ Q (.int (pol row n)) H
theorem ok_law_value (T : Tx K mg) : FnOk P w K mg base CX0 1 T.f_law_value T.d_law_value ["terms", "at"] (sp_lvalue K) := by
  refine T.F_law_value.ok sc_law_value (fun vs H Q E h => ?_) (fun cdv A outer s H vs Q E hr h => ?_)
  · obtain ⟨p, row, n, rfl, _⟩ := h
    rfl
  · obtain ⟨p, row, n, rfl, hS, hv, k⟩ := h
    refine ⟨_,
    (pss_cons
      (ps_set (i := 2) sc_law_value.nd rfl (.inl rfl) pe_int)
    (pss_cons
      (ps_set (i := 3) sc_law_value.nd rfl (.inl rfl) pe_int)
    (pss_cons
      (ps_for PassesOwn.never rfl (pi_range1 (by rfl) T.m_range (pa_cons (pe_callB call_len_seq (by rfl) T.m_len (by decide +kernel) (pa_cons (pv 0) pa_nil)) pa_nil)) (pg_name (i := 4) sc_law_value.nd rfl (.inl rfl))
        (pss_cons
          (ps_set (i := 2) sc_law_value.nd rfl (.inl rfl) (pe_op op_add (pv 2) (pe_op op_mulW (pe_ix ix_list (pv 0) (pv 4) (fun _ _ => rfl)) (pv 3))))
        (pss_one
          (ps_set (i := 3) sc_law_value.nd rfl (.inl rfl) (pe_op op_fdivW (pe_op op_mulW (pv 3) (pe_op op_sub (pv 1) (pv 4))) (pe_op op_add (pv 4) pe_int))))))
    (pss_one
      (ps_ret (pv 2)))))), ?_⟩
    have hlen : row.length ≤ 400 := by
      obtain ⟨B, b, h1, h2, h3, h4, h5, h6⟩ := hv
      exact h6
    refine ⟨_, rfl, p, _, rfl, .inl hS, _, rfl, ?_, ?_, for_range (n := _) (fun i σ H' => H' = H ∧ ∃ x4, σ = [some (.ref p), some (.int n), some (.int (pol (row.take i) n)), some (.int (W n i)), x4]) ?_ ?_ ?_⟩
    · rw [List.length_map]; omega
    · rw [List.length_map]; omega
    · exact ⟨rfl, none, rfl⟩
    · rintro i σ H1 hi ⟨rfl, x4, rfl⟩
      rw [List.length_map, Int.toNat_natCast] at hi
      have ha : row[i]? = some row[i] := List.getElem?_eq_getElem hi
      have gi : (row.map V.int)[i]? = some (V.int row[i]) := by rw [List.getElem?_map, ha]; rfl
      obtain ⟨c1, c2, c3⟩ := hv.ops ha
      refine ⟨_, rfl, _, rfl, _, rfl, p, _, _, _, rfl, rfl, hS, at_of (j := i) (by omega) gi, _, rfl, _, _, rfl, rfl, c1, _, _, rfl, rfl, ?_⟩
      refine ⟨_, rfl, _, rfl, _, rfl, _, _, rfl, rfl, _, _, rfl, rfl, c2, _, rfl, _, _, rfl, rfl, _, _, rfl, rfl, c3, rfl, some (V.int (0 + (i : Int))), ?_⟩
      rw [pol_take ha, ← W_go]
      rfl
    · rintro σ H1 ⟨rfl, x4, rfl⟩
      rw [List.length_map, Int.toNat_natCast, List.take_of_length_le (Nat.le_refl _)]
      exact ⟨_, rfl, k⟩
theorem all_true (n : Nat) : (List.replicate n true).all id = true := by
  induction n with
  | zero => rfl
  | succ n ih => rw [List.replicate_succ, List.all_cons, ih]; rfl
def sp_ints (K : PySem.W.Frag) : Sp := fun vs H Q _ => ∃ (p : Addr) (r : List Int), vs = [.ref p] ∧ H p = some (.lst (r.map V.int)) ∧ r.length ≤ 900 ∧ ∀ H', Same H H' → Q (.bl true) H'
theorem ok_law_is_integers (T : Tx K mg) : FnOk P w K mg base CX0 2 T.f_law_is_integers T.d_law_is_integers ["found"] (sp_ints K) := by
  refine T.F_law_is_integers.ok sc_law_is_integers (fun vs H Q E h => ?_) (fun cdv A outer s H vs Q E hr h => ?_)
  · obtain ⟨p, r, rfl, _⟩ := h
    rfl
  · obtain ⟨p, r, rfl, hp, hl, k⟩ := h
    refine ⟨_,
    (pss_one
      (ps_ret (pe_and (pe_callB call_isi (by rfl) T.m_isinstance (by decide +kernel) (pa_cons (pv 0) (pa_cons (pe_bltn (v := .ty "list") (by rfl) T.m_list (by decide +kernel) rfl) pa_nil))) (pe_one (pe_callB (cr_all rfl) (by rfl) T.m_all (by decide +kernel) (pa_cons (pe_lc (own := [("entry", 1)]) (g := gName 1) rfl sc_law_is_integers.nd (pi_list (pv 0)) (blkOk_by (N := ["found", "entry"]) (sc := defScope s_law_is_integers) (own := [("entry", 1)]) (by decide +kernel)) (fun _ _ _ _ _ => (pg_name (i := 1) sc_law_is_integers.nd rfl (.inl rfl))) (fun _ _ _ _ _ => pts_nil) (fun _ _ _ _ _ => (pe_call (ok_law_is_integer T) hr (by rfl) T.g_law_is_integer T.F_law_is_integer.kp T.b_law_is_integer .nil pass0 (pa_cons (pv 1) pa_nil)))) pa_nil)))))), ?_⟩
    refine ⟨_, rfl, _, _, _, _, true, rfl, .ty "list", .base (.lst hp), kit_ty (by decide +kernel), _, rfl, iteT ?_⟩
    refine ⟨_, rfl, p, rfl, ⟨_, .of hp⟩, fun D hD => ?_⟩
    refine lc_list (xs := r.map V.int) (fun i H' => i ≤ r.length ∧ H' D = some (.lst ((List.replicate i true).map V.bl)) ∧ Same H H') ⟨Nat.zero_le _, upd_same, same_upd hD⟩ (fun i H' _ h => .of (h.2.2 _ _ hp)) ?_ ?_
    · rintro i v H4 hi ⟨il, eD, sm⟩
      have hil := (List.getElem?_eq_some_iff.mp hi).1
      rw [List.length_map] at hil
      rw [List.getElem?_map] at hi
      obtain ⟨z, _, rfl⟩ := Option.map_eq_some_iff.mp hi
      refine ⟨rfl, _, rfl, z, rfl, (List.replicate i true).map V.bl, eD, ?_, hil, ?_, fun b o e => ?_⟩
      · rw [List.length_map, List.length_replicate]; exact small1000 (by omega)
      · rw [upd_same, List.replicate_succ', List.map_append]; rfl
      · rw [upd_ne (ne_of_none e hD)]; exact sm b o e
    · rintro H4 ⟨_, eD, sm⟩
      refine ⟨D, List.replicate (r.map V.int).length true, rfl, .of eD, ?_⟩
      rw [all_true]
      exact k H4 sm
/-- all but p is as it was -/
def Kp (H H' : Hp) (p : Addr) : Prop := ∀ b o, H b = some o → b ≠ p → H' b = some o
def sp_terms (K : PySem.W.Frag) : Sp := fun vs H Q _ => ∃ (p : Addr) (z m : Int), vs = [.ref p, .int m] ∧ H p = some (.lst [.int z]) ∧ 0 ≤ z ∧ 0 < m ∧ m ≤ 41 ∧
  ∀ (q : Addr) (r : List Int) (y : Int) (H' : Hp), H q = none → Kp H H' p → H' p = some (.lst [.int y]) → 0 ≤ y → H' q = some (.lst (r.map V.int)) → Trm r → Sz 101 r → (r.length : Int) < m → Q (.ref q) H'
theorem pickI {ms : List Int} {w : Int} (h0 : 0 ≤ w) (h1 : w < ms.length) : ∃ m, m ∈ ms ∧ (ms.map V.int)[w.toNat]? = some (V.int m) := by
  have h : w.toNat < ms.length := by omega
  exact ⟨ms[w.toNat], List.getElem_mem h, by rw [List.getElem?_map, List.getElem?_eq_getElem h]; rfl⟩
theorem ok_law_terms (T : Tx K mg) : FnOk P w K mg base CX0 2 T.f_law_terms T.d_law_terms ["spring", "size"] (sp_terms K) := by
  refine T.F_law_terms.ok sc_law_terms (fun vs H Q E h => ?_) (fun cdv A outer s H vs Q E hr h => ?_)
  · obtain ⟨p, z, m, rfl, _⟩ := h
    rfl
  · obtain ⟨p, z, m, rfl, hp, hz, hm, hm2, k⟩ := h
    refine ⟨_,
    (pss_cons
      (ps_set (i := 2) sc_law_terms.nd rfl (.inr rfl) (pe_ix ix_list (pe_lst (pa_cons pe_int (pa_cons (pe_op op_pow pe_int pe_int) (pa_cons (pe_op op_pow pe_int pe_int) pa_nil)))) (pe_call (ok_law_draw T) hr (by rfl) T.g_law_draw T.F_law_draw.kp T.b_law_draw .nil pass0 (pa_cons (pv 0) (pa_cons pe_int pa_nil))) (fun _ _ => rfl)))
    (pss_cons
      (ps_setLc (i := 3) (own := [("k", 4)]) (g := gName 4) rfl sc_law_terms.nd rfl rfl (sw_true rfl rfl rfl (by decide +kernel)) (pi_range1 (by rfl) T.m_range (pa_cons (pe_call (ok_law_draw T) hr (by rfl) T.g_law_draw T.F_law_draw.kp T.b_law_draw .nil pass0 (pa_cons (pv 0) (pa_cons (pv 1) pa_nil))) pa_nil)) (blkOk_by (N := ["spring", "size", "most", "row", "k"]) (sc := defScope s_law_terms) (own := [("k", 4)]) (by decide +kernel)) (fun _ _ _ _ _ => (pg_name (i := 4) sc_law_terms.nd rfl (.inl rfl))) (fun _ _ _ _ _ => pts_nil) (fun _ _ _ _ _ => (pe_op op_sub (pe_op op_fdiv (pv 2) pe_int) (pe_call (ok_law_draw T) hr (by rfl) T.g_law_draw T.F_law_draw.kp T.b_law_draw .nil pass0 (pa_cons (pv 0) (pa_cons (pv 2) pa_nil))))))
    (pss_cons
      (ps_while PassesOwn.never (PW.pt (pw_and (pt_cmpR (op_neD hr.units) (pv 3) (pe_lst pa_nil) (nomark _)) (pw_and1 (pt_cmpR op_eq (pe_ix ix_list (pv 3) (pe_un un_neg pe_int) (fun _ _ => rfl)) pe_int (nomark _)))))
        (pss_one
          (ps_expr (pe_bm0 PySem.F.plainAttrs_list PySem.F.slot_list_pop PySem.F.type_list_pop mt_pop (pv 3)))))
    (pss_one
      (ps_ret (pv 3)))))), ?_⟩
    refine ⟨_, _, rfl, rfl, ⟨by decide, by decide, by decide⟩, _, _, rfl, rfl, ⟨by decide, by decide, by decide⟩, (by show 3 ≤ sizeLine; decide), fun L hL => ?_⟩
    have hm0 : ∀ m ∈ [7, (10 : Int) ^ (6 : Int).toNat, (10 : Int) ^ (30 : Int).toNat], 0 < m ∧ m.natAbs < 2 ^ 100 := by decide +kernel
    have pL : p ≠ L := ne_of_none hp hL
    refine ⟨_, rfl, p, 3, z, rfl, (by rw [upd_ne pL]; exact hp), hz, by decide, by decide +kernel, fun w0 y w00 w01 y0 => ?_⟩
    obtain ⟨M, hM, gm⟩ := pickI (ms := [7, (10 : Int) ^ (6 : Int).toNat, (10 : Int) ^ (30 : Int).toNat]) w00 w01
    obtain ⟨M0, M1⟩ := hm0 M hM
    refine ⟨L, _, _, V.int M, rfl, rfl, .of (by rw [upd_ne pL.symm]; exact upd_same), at_of (j := w0.toNat) (by omega) gm, ?_⟩
    have kp : Kp H (upd (upd H L (.lst ([7, (10 : Int) ^ (6 : Int).toNat, (10 : Int) ^ (30 : Int).toNat].map V.int))) p (.lst [.int y])) p := fun b o e nb => by rw [upd_ne nb, upd_ne (ne_of_none e hL)]; exact e
    have ep : (upd (upd H L (.lst ([7, (10 : Int) ^ (6 : Int).toNat, (10 : Int) ^ (30 : Int).toNat].map V.int))) p (.lst [.int y])) p = some (.lst [.int y]) := upd_same
    show gName 2 _ _ (upd (upd H L (.lst ([7, (10 : Int) ^ (6 : Int).toNat, (10 : Int) ^ (30 : Int).toNat].map V.int))) p (.lst [.int y])) _
    generalize upd (upd H L (.lst ([7, (10 : Int) ^ (6 : Int).toNat, (10 : Int) ^ (30 : Int).toNat].map V.int))) p (.lst [.int y]) = H1 at *
    refine ⟨_, rfl, _, rfl, p, m, y, rfl, ep, y0, hm, small_log (by omega), fun n y1 n0 n1 y10 => ⟨_, rfl, ?_, ?_, fun D hD => ?_⟩⟩
    · omega
    · omega
    have pD : p ≠ D := ne_of_none upd_same hD
    have fD : H D = none := by
      cases hz : H D with
      | none => rfl
      | some o => rw [upd_ne pD.symm, kp _ _ hz pD.symm] at hD; cases hD
    refine lc_range (lo := 0) (n := _) (fun i H' => ∃ (y : Int) (r : List Int), r.length = i ∧ Sz 101 r ∧ 0 ≤ y ∧ H' p = some (.lst [.int y]) ∧ H' D = some (.lst (r.map V.int)) ∧ Kp H H' p) ?_ ?_ ?_
    · refine ⟨y1, [], rfl, (fun _ h => absurd h List.not_mem_nil), y10, ?_, upd_same, fun b o e nb => ?_⟩
      · rw [upd_ne pD, upd_same]
      · rw [upd_ne (ne_of_none e fD), upd_ne nb]; exact kp b o e nb
    · rintro j H6 hj ⟨y, r, hl, hr, y0, ep, eD, kp⟩
      refine ⟨rfl, _, rfl, _, _, rfl, rfl, ⟨by decide, by decide⟩, _, rfl, _, rfl, p, M, y, rfl, ep, y0, M0, ?_, fun d y' d0 d1 y0' => ⟨_, _, rfl, rfl, r.map V.int, ?_, ?_, y', r ++ [M / 2 - d], ?_, ?_, y0', ?_, ?_, ?_⟩⟩
      · exact Nat.lt_trans (PySem.Flt.log2_lt_of (by decide) M1) (by decide)
      · rw [upd_ne pD.symm]; exact eD
      · rw [List.length_map, hl]; exact small1000 (by omega)
      · rw [List.length_append, hl]; rfl
      · intro a ha
        rcases List.mem_append.mp ha with h | h
        · exact hr a h
        · rw [List.mem_singleton.mp h]
          have h2 : (2 : Nat) ^ 100 + 2 ^ 100 ≤ 2 ^ 101 := by decide +kernel
          have h3 : (M / 2 - d).natAbs < 2 ^ 100 + 2 ^ 100 := by omega
          omega
      · rw [upd_ne pD, upd_same]
      · rw [upd_same, List.map_append]; rfl
      · intro b o e nb
        rw [upd_ne (ne_of_none e fD), upd_ne nb]
        exact kp b o e nb
    rintro H6 ⟨y, r, hl, hr, y0, ep, eD, kp⟩
    -- zeros at the end are taken off
    refine ⟨fun t σ H' => ∃ r : List Int, r.length = t ∧ (t : Int) ≤ n ∧ Sz 101 r ∧ H' p = some (.lst [.int y]) ∧ H' D = some (.lst (r.map V.int)) ∧ Kp H H' p ∧ σ = [some (.ref p), some (.int m), some (.int M), some (.ref D), none],
      ⟨_, r, rfl, by omega, hr, ep, eD, kp, rfl⟩, ?_⟩
    clear hr ep eD kp hl r
    rintro t σ H7 ⟨r, hl, ht, hr, ep, eD, kp, rfl⟩
    refine ⟨_, rfl, Nat.zero_le _, fun Z hZ => ⟨.list (r.map PyData.int), .list [], .lst (.of (same_upd hZ _ _ eD)) dp_ints, .lst (.of upd_same) .nil, list_ok _, rfl, _, rfl, ?_⟩⟩
    have eD2 := same_upd (o := .lst []) hZ _ _ eD
    have ep2 := same_upd (o := .lst []) hZ _ _ ep
    have kp2 : Kp H (upd H7 Z (.lst [])) p := fun b o e nb => same_upd hZ _ _ (kp b o e nb)
    generalize upd H7 Z (.lst []) = H8 at eD2 ep2 kp2 ⊢
    by_cases hne : r = []
    · subst hne
      refine iteF ?_
      refine ⟨_, rfl, k D [] y H8 fD kp2 ep2 y0 eD2 trm_nil hr ?_⟩
      show (0 : Int) < m
      omega
    obtain ⟨s, a, rfl⟩ := snoc_of hne
    have hq : (!(PyData.list ((s ++ [a]).map PyData.int)).eqv (PyData.list [])) = true := by
      cases s <;> rfl
    rw [hq]
    refine iteT ?_
    have gl : ((s ++ [a]).map V.int)[((s ++ [a]).map V.int).length - 1]? = some (V.int a) := by
      rw [List.map_append, List.length_append]
      show (s.map V.int ++ [V.int a])[(s.map V.int).length + 1 - 1]? = _
      rw [Nat.add_sub_cancel, List.getElem?_append_right (Nat.le_refl _), Nat.sub_self]
      rfl
    refine ⟨_, rfl, _, rfl, D, _, _, V.int a, rfl, rfl, .of eD2, (by rw [List.map_append]; exact atI_last _ _), rfl, _, rfl, ite2 (fun c => ?_) (fun c => ?_)⟩
    · refine ⟨fun σ' H' => ∃ r : List Int, r.length < t ∧ ((r.length : Nat) : Int) ≤ n ∧ Sz 101 r ∧ H' p = some (.lst [.int y]) ∧ H' D = some (.lst (r.map V.int)) ∧ Kp H H' p ∧ σ' = [some (.ref p), some (.int m), some (.int M), some (.ref D), none],
        fun σ' H' ⟨r, h1, h2⟩ => ⟨_, h1, r, rfl, h2⟩, ?_⟩
      rw [List.length_append] at hl
      refine ⟨_, rfl, .inl ⟨rfl, _, .of eD2⟩, D, _, _, rfl, rfl, eD2, gl, s, by show s.length < t; simp at hl; omega, by simp at hl; omega, fun x hx => hr x (List.mem_append_left _ hx), ?_, ?_, ?_, rfl⟩
      · rw [upd_ne pD]; exact ep2
      · rw [upd_same, List.map_append]
        show some (HO.lst (s.map V.int ++ [V.int a]).dropLast) = _
        rw [List.dropLast_concat]
      · intro b o e nb
        rw [upd_ne (ne_of_none e fD)]
        exact kp2 b o e nb
    · have ha : a ≠ 0 := fun z => c (decide_eq_true (congrArg V.int z))
      refine ⟨_, rfl, k D (s ++ [a]) y H8 fD kp2 ep2 y0 eD2 (fun s2 a2 e => ?_) hr ?_⟩
      · have := List.append_inj_right' e rfl
        have h3 : a = a2 := by injection this
        rw [← h3]; exact ha
      · show ((s ++ [a]).length : Int) < m
        rw [hl]; omega
def sp_right (K : PySem.W.Frag) : Sp := fun vs H Q _ => ∃ (a b c : Addr) (r s : List Int) (B : Nat), vs = [.ref a, .ref b, .ref c] ∧ H a = some (.lst (r.map V.int)) ∧ H b = some (.lst (s.map V.int)) ∧ H c = some (.lst ((prodL r s).map V.int)) ∧ Trm r ∧ Trm s ∧ POk B r s ∧ B ≤ 90000 ∧ ∀ H', Same H H' → Q (.bl true) H'
theorem eqv_nil {r : List Int} (h : r ≠ []) : (PyData.list (r.map PyData.int)).eqv (PyData.list []) = false := by
  cases r with
  | nil => exact absurd rfl h
  | cons a s => rfl
theorem ok_law_right (T : Tx K mg) : FnOk P w K mg base CX0 3 T.f_law_right T.d_law_right ["first", "second", "found"] (sp_right K) := by
  refine T.F_law_right.ok sc_law_right (fun vs H Q E h => ?_) (fun cdv A outer s H vs Q E hr h => ?_)
  · obtain ⟨a, b, c, r, s, B, rfl, _⟩ := h
    rfl
  · obtain ⟨a, b, c, r, q, B, rfl, ha, hb, hc, tr, tq, hp, hB, k⟩ := h
    refine ⟨_,
    (pss_cons
      (ps_if (pt_not (pt_val (pe_call (ok_law_is_integers T) hr (by rfl) T.g_law_is_integers T.F_law_is_integers.kp T.b_law_is_integers .nil pass0 (pa_cons (pv 2) pa_nil))))
        (pss_one
          (ps_ret pe_bl))
        pss_nil)
    (pss_cons
      (ps_if (PW.pt (pw_or (pt_cmpR (op_eqD hr.units) (pv 0) (pe_lst pa_nil) (nomark _)) (pw_or1 (pt_cmpR (op_eqD hr.units) (pv 1) (pe_lst pa_nil) (nomark _)))))
        (pss_one
          (ps_ret (pe_cmpR (op_eqD hr.units) (pv 2) (pe_lst pa_nil) (nomark _))))
        pss_nil)
    (pss_cons
      (ps_if (PW.pt (pw_or (pt_cmpR op_ne (pe_callB call_len_seq (by rfl) T.m_len (by decide +kernel) (pa_cons (pv 2) pa_nil)) (pe_op op_sub (pe_op op_add (pe_callB call_len_seq (by rfl) T.m_len (by decide +kernel) (pa_cons (pv 0) pa_nil)) (pe_callB call_len_seq (by rfl) T.m_len (by decide +kernel) (pa_cons (pv 1) pa_nil))) pe_int) (nomark _)) (pw_or1 (pt_cmpR op_eq (pe_ix ix_list (pv 2) (pe_un un_neg pe_int) (fun _ _ => rfl)) pe_int (nomark _)))))
        (pss_one
          (ps_ret pe_bl))
        pss_nil)
    (pss_cons
      (ps_for PassesOwn.never rfl (pi_range2 (by rfl) T.m_range (pa_cons (pe_un un_neg pe_int) (pa_cons (pe_callB call_len_seq (by rfl) T.m_len (by decide +kernel) (pa_cons (pv 2) pa_nil)) pa_nil))) (pg_name (i := 3) sc_law_right.nd rfl (.inl rfl))
        (pss_one
          (ps_if (pt_cmpR op_ne (pe_call (ok_law_value T) (hr.mono (by decide)) (by rfl) T.g_law_value T.F_law_value.kp T.b_law_value .nil pass0 (pa_cons (pv 2) (pa_cons (pv 3) pa_nil))) (pe_op op_mulW (pe_call (ok_law_value T) (hr.mono (by decide)) (by rfl) T.g_law_value T.F_law_value.kp T.b_law_value .nil pass0 (pa_cons (pv 0) (pa_cons (pv 3) pa_nil))) (pe_call (ok_law_value T) (hr.mono (by decide)) (by rfl) T.g_law_value T.F_law_value.kp T.b_law_value .nil pass0 (pa_cons (pv 1) (pa_cons (pv 3) pa_nil)))) (nomark _))
            (pss_one
              (ps_ret pe_bl))
            pss_nil)))
    (pss_one
      (ps_ret pe_bl)))))), ?_⟩
    have h5 := hp.2.2.2.2.1
    have h6 := hp.2.2.2.2.2
    have hpl := prod_length r q
    refine ⟨_, rfl, c, _, rfl, hc, by omega, fun H1 s1 => ⟨_, rfl, ?_⟩⟩
    refine ⟨_, rfl, Nat.zero_le _, fun Z hZ => ⟨.list (r.map PyData.int), .list [], .lst (.of (same_upd hZ _ _ (s1 _ _ ha))) dp_ints, .lst (.of upd_same) .nil, list_ok _, rfl, _, rfl, ?_⟩⟩
    have s2 := s1.trans (same_upd (o := .lst []) hZ)
    generalize upd H1 Z (.lst []) = H2 at s2 ⊢
    by_cases r0 : r = []
    · subst r0
      refine iteT (iteT ?_)
      rw [prod_nil (.inl rfl)] at hc
      exact ⟨_, rfl, Nat.zero_le _, fun Z hZ => ⟨.list [], .list [], .lst (.of (same_upd hZ _ _ (s2 _ _ hc))) .nil, .lst (.of upd_same) .nil, rfl, rfl, k _ (s2.trans (same_upd hZ))⟩⟩
    rw [eqv_nil r0]
    refine iteF ?_
    clear hZ
    refine ⟨_, rfl, Nat.zero_le _, fun Z hZ => ⟨.list (q.map PyData.int), .list [], .lst (.of (same_upd hZ _ _ (s2 _ _ hb))) dp_ints, .lst (.of upd_same) .nil, list_ok _, rfl, _, rfl, ?_⟩⟩
    have s3 := s2.trans (same_upd (o := .lst []) hZ)
    generalize upd H2 Z (.lst []) = H3 at s3 ⊢
    by_cases q0 : q = []
    · subst q0
      refine iteT ?_
      rw [prod_nil (.inr rfl)] at hc
      exact ⟨_, rfl, Nat.zero_le _, fun Z hZ => ⟨.list [], .list [], .lst (.of (same_upd hZ _ _ (s3 _ _ hc))) .nil, .lst (.of upd_same) .nil, rfl, rfl, k _ (s3.trans (same_upd hZ))⟩⟩
    rw [eqv_nil q0]
    refine iteF ?_
    have top := prod_top tr tq r0 q0
    have lr : 0 < r.length := List.length_pos_iff.mpr r0
    have lq : 0 < q.length := List.length_pos_iff.mpr q0
    refine ⟨_, rfl, c, _, rfl, .inl (.of (s3 _ _ hc)), _, rfl, a, _, rfl, .inl (.of (s3 _ _ ha)), _, rfl, b, _, rfl, .inl (.of (s3 _ _ hb)), _, _, rfl, rfl, _, _, rfl, rfl, rfl, _, rfl, iteNS ?_ ?_⟩
    · rw [List.length_map, List.length_map, List.length_map, top]
      congr 1
      omega
    have pne : prodL r q ≠ [] := fun z => by rw [z] at top; simp at top; omega
    have ptr := prod_trm r q
    have psz := prod_size hp
    have ppol := pol_prod r q
    generalize prodL r q = f at hc hpl top pne ptr psz ppol
    obtain ⟨g, z, rfl⟩ := snoc_of pne
    refine ⟨_, rfl, _, rfl, c, _, _, V.int z, rfl, rfl, .of (s3 _ _ hc), (by rw [List.map_append]; exact atI_last _ _), rfl, _, rfl, iteND (fun h => ptr g z rfl (V.int.inj h)) ?_⟩
    generalize g ++ [z] = f at hc hpl top psz ppol ⊢
    refine ⟨_, rfl, _, rfl, c, _, rfl, .inl (.of (s3 _ _ hc)), _, _, rfl, ⟨by decide, by decide, ?_, ?_⟩, for_range (lo := -3) (n := _) (fun i σ H' => H' = H3 ∧ ∃ x3, σ = [some (.ref a), some (.ref b), some (.ref c), x3]) ?_ ?_ ?_⟩
    · omega
    · rw [List.length_map]; omega
    · exact ⟨rfl, none, rfl⟩
    · rintro i σ H' hi ⟨rfl, x3, rfl⟩
      rw [List.length_map] at hi
      have hn : (-3 + (i : Int)).natAbs ≤ 300 := by omega
      have vf : VOk f (-3 + (i : Int)) := ⟨2 * B + 2640, 9, psz, by show _ ≤ 512; omega, by omega, by decide, by omega, by omega⟩
      refine ⟨_, rfl, _, rfl, c, f, _, rfl, .of (s3 _ _ hc), vf, _, rfl, _, rfl, a, r, _, rfl, .of (s3 _ _ ha), hp.v1 hn, _, rfl, _, rfl, b, q, _, rfl, .of (s3 _ _ hb), hp.symm.v1 hn, _, _, rfl, rfl, hp.mulW hn, rfl, _, rfl, iteNS (congrArg V.int (ppol _)) ⟨rfl, _, rfl⟩⟩
    · rintro σ H' ⟨rfl, _⟩
      exact k _ s3
theorem cut_init (xs : List V) (v : V) : cutV (xs ++ [v]) none (some (-1)) = xs := by
  unfold cutV
  rw [HT.sIx_none, List.drop_zero, Nat.sub_zero]
  have : HT.sIx (xs ++ [v]).length (xs ++ [v]).length (some (-1)) = xs.length := by
    unfold HT.sIx
    rw [List.length_append]
    dsimp only
    rw [if_pos (by decide)]
    show ((-1 : Int) + ((xs.length + 1 : Nat) : Int)).toNat = xs.length
    omega
  rw [this]
  exact List.take_left
theorem two_ok (r s : List Int) : SeqAt.shaped (.list [.list (r.map PyData.int), .list (s.map PyData.int)]) = true := by
  unfold SeqAt.shaped
  rw [Bool.and_eq_true]
  have h1 := depth_ints r
  have h2 := depth_ints s
  constructor
  · show (PyData.canLayAll0 (r.map PyData.int) && (PyData.canLayAll0 (s.map PyData.int) && true)) = true
    rw [lay_ints, lay_ints]; rfl
  · refine decide_eq_true ?_
    simp only [PyData.depth, PyData.depthAll]
    omega
def spLaw (K : PySem.W.Frag) : Sp := fun vs H Q _ => ∃ (a : Addr) (ns : List Int), vs = [.ref a] ∧ SqL K H a (ns.map V.int) ∧ ns.length ≤ 63 ∧ ∀ H', Q (.bl true) H'
set_option maxHeartbeats 1600000 in
theorem ok_law (T : Tx K mg) : FnOk P w K mg base CX0 4 T.f_law T.d_law ["script"] (spLaw K) := by
  refine T.F_law.ok sc_law (fun vs H Q E h => ?_) (fun cdv A outer s H vs Q E hr h => ?_)
  · obtain ⟨a, ns, rfl, _⟩ := h
    rfl
  · obtain ⟨a, ns, rfl, hS, hl, k⟩ := h
    refine ⟨_,
    (pss_cons
      (ps_set (i := 1) sc_law.nd rfl (.inl rfl) (pe_op op_cat (pe_lst (pa_cons pe_int pa_nil)) (pe_slice sl_list (pv 0) po_none (po_some pe_int))))
    (pss_cons
      (ps_for PassesOwn.never rfl (pi_range1 (by rfl) T.m_range (pa_cons (pe_callB call_len_seq (by rfl) T.m_len (by decide +kernel) (pa_cons (pv 1) pa_nil)) pa_nil)) (pg_name (i := 2) sc_law.nd rfl (.inl rfl))
        (pss_cons
          (ps_set (i := 3) sc_law.nd rfl (.inl rfl) (pe_call (ok_law_spring T) (hr.mono (by decide)) (by rfl) T.g_law_spring T.F_law_spring.kp T.b_law_spring .nil pass0 (pa_cons (pe_ix ix_list (pv 1) (pv 2) (fun _ _ => rfl)) pa_nil)))
        (pss_cons
          (ps_set (i := 4) sc_law.nd rfl (.inl rfl) (pe_cmpR op_eq (pe_call (ok_law_draw T) (hr.mono (by decide)) (by rfl) T.g_law_draw T.F_law_draw.kp T.b_law_draw .nil pass0 (pa_cons (pv 3) (pa_cons pe_int pa_nil))) pe_int (nomark _)))
        (pss_cons
          (ps_set (i := 5) sc_law.nd rfl (.inl rfl) pe_int)
        (C8.pss_cut
          (ps_if (PW.pt (pw_and (pt_cmpR op_eq (pe_call (ok_law_draw T) (hr.mono (by decide)) (by rfl) T.g_law_draw T.F_law_draw.kp T.b_law_draw .nil pass0 (pa_cons (pv 3) (pa_cons pe_int pa_nil))) pe_int (nomark _)) (pw_and1 (pt_cmpR op_eq (pv 2) pe_int (nomark _)))))
            (pss_one
              (ps_set (i := 5) sc_law.nd rfl (.inl rfl) pe_int))
            pss_nil)
        (pss_cons
          (ps_set (i := 6) sc_law.nd rfl (.inl rfl) (pe_call (ok_law_terms T) (hr.mono (by decide)) (by rfl) T.g_law_terms T.F_law_terms.kp T.b_law_terms .nil pass0 (pa_cons (pv 3) (pa_cons (pv 5) pa_nil))))
        (pss_cons
          (ps_set (i := 7) sc_law.nd rfl (.inl rfl) (pe_call (ok_law_terms T) (hr.mono (by decide)) (by rfl) T.g_law_terms T.F_law_terms.kp T.b_law_terms .nil pass0 (pa_cons (pv 3) (pa_cons (pe_op op_add (pv 5) pe_int) pa_nil))))
        (C8.pss_cut
          (ps_if (pt_val (pv 4))
            (pss_one
              (ps_set (i := 7) sc_law.nd rfl (.inl rfl) (pe_callTy call_list_of (by rfl) T.m_list (by decide +kernel) (pa_cons (pv 6) pa_nil))))
            pss_nil)
        (pss_cons
          (ps_set (i := 8) sc_law.nd rfl (.inl rfl) (pe_lst (pa_cons (pe_callTy call_list_of (by rfl) T.m_list (by decide +kernel) (pa_cons (pv 6) pa_nil)) (pa_cons (pe_callTy call_list_of (by rfl) T.m_list (by decide +kernel) (pa_cons (pv 7) pa_nil)) pa_nil))))
        (pss_cons
          (ps_set (i := 9) sc_law.nd rfl (.inl rfl) (pe_call (ok_product T) hr (by rfl) T.g_product T.F_product.kp T.b_product .nil pass0 (pa_cons (pe_ix ix_list (pv 8) pe_int (fun _ _ => rfl)) (pa_cons (pe_ix ix_list (pv 8) pe_int (fun _ _ => rfl)) pa_nil))))
        (pss_cons
          (ps_if (PW.pt (pw_or (pt_not (pt_val (pe_call (ok_law_right T) hr (by rfl) T.g_law_right T.F_law_right.kp T.b_law_right .nil pass0 (pa_cons (pv 6) (pa_cons (pv 7) (pa_cons (pv 9) pa_nil)))))) (pw_or1 (pt_cmpR (op_neD hr.units) (pv 8) (pe_lst (pa_cons (pv 6) (pa_cons (pv 7) pa_nil))) (nomark _)))))
            (pss_one
              (ps_ret pe_bl))
            pss_nil)
        (pss_cons
          (ps_if (pt_cmpR (op_neD hr.units) (pe_callN0 (ok_product T) hr (by rfl) T.g_product T.F_product.kp (kb_product T) pass0 (pk_cons (pv 7) (pk_cons (pv 6) pk_nil))) (pv 9) (nomark _))
            (pss_one
              (ps_ret pe_bl))
            pss_nil)
        (C8.pss_cut
          (ps_if (pt_cmpR op_eq (pv 5) pe_int (nomark _))
            (pss_cons
              (ps_set (i := 10) sc_law.nd rfl (.inl rfl) (pe_call (ok_product T) hr (by rfl) T.g_product T.F_product.kp T.b_product .nil pass0 (pa_cons (pv 9) (pa_cons (pe_ix ix_list (pv 8) pe_int (fun _ _ => rfl)) pa_nil))))
            (pss_one
              (ps_if (PW.pt (pw_or (pt_not (pt_val (pe_call (ok_law_right T) hr (by rfl) T.g_law_right T.F_law_right.kp T.b_law_right .nil pass0 (pa_cons (pv 9) (pa_cons (pv 7) (pa_cons (pv 10) pa_nil)))))) (pw_or1 (pt_cmpR op_ne (pe_call (ok_value_at T) (hr.mono (by decide)) (by rfl) T.g_value_at T.F_value_at.kp T.b_value_at .nil pass0 (pa_cons (pv 10) (pa_cons pe_int pa_nil))) (pe_call (ok_law_value T) (hr.mono (by decide)) (by rfl) T.g_law_value T.F_law_value.kp T.b_law_value .nil pass0 (pa_cons (pv 10) (pa_cons pe_int pa_nil))) (nomark _)))))
                (pss_one
                  (ps_ret pe_bl))
                pss_nil)))
            pss_nil)
        (pss_cons
          (ps_expr (pe_bm PySem.F.plainAttrs_list PySem.F.slot_list_append PySem.F.type_list_append mt_append (pv 9) (pa_cons pe_int pa_nil)))
        (pss_cons
          (ps_if (pt_cmpR (op_neD hr.units) (pe_call (ok_product T) hr (by rfl) T.g_product T.F_product.kp T.b_product .nil pass0 (pa_cons (pe_ix ix_list (pv 8) pe_int (fun _ _ => rfl)) (pa_cons (pe_ix ix_list (pv 8) pe_int (fun _ _ => rfl)) pa_nil))) (pe_slice sl_list (pv 9) po_none (po_some (pe_un un_neg pe_int))) (nomark _))
            (pss_one
              (ps_ret pe_bl))
            pss_nil)
        (pss_cons
          (ps_set (i := 11) sc_law.nd rfl (.inl rfl) (pe_ix ix_list (pv 8) pe_int (fun _ _ => rfl)))
        (pss_cons
          (ps_expr (pe_bm PySem.F.plainAttrs_list PySem.F.slot_list_append PySem.F.type_list_append mt_append (pv 11) (pa_cons pe_int pa_nil)))
        (pss_one
          (ps_if (pt_not (pt_val (pe_call (ok_law_right T) hr (by rfl) T.g_law_right T.F_law_right.kp T.b_law_right .nil pass0 (pa_cons (pe_op op_cat (pv 6) (pe_lst (pa_cons pe_int pa_nil))) (pa_cons (pv 7) (pa_cons (pe_call (ok_product T) hr (by rfl) T.g_product T.F_product.kp T.b_product .nil pass0 (pa_cons (pe_ix ix_list (pv 8) pe_int (fun _ _ => rfl)) (pa_cons (pe_ix ix_list (pv 8) pe_int (fun _ _ => rfl)) pa_nil))) pa_nil))))))
            (pss_one
              (ps_ret pe_bl))
            pss_nil)))))))))))))))))))
    (pss_one
      (ps_ret pe_bl)))), ?_⟩
    refine ⟨(by show 1 ≤ sizeLine; decide), fun l hl0 => ⟨_, rfl, _, rfl, a, _, rfl, (same_upd hl0).seq hS, fun b hb => ⟨l, b, [V.int 6], _, rfl, rfl, ?_, upd_same, ?_, fun A hA => ?_⟩⟩⟩
    · rw [upd_ne (ne_of_none upd_same hb), upd_same]
    · have h := cutV_length (ns.map V.int) none (some 4)
      rw [List.length_map] at h
      exact Nat.le_of_lt (small1000 (n := 1 + _) (by omega))
    have hxs : ∀ x ∈ [V.int 6] ++ cutV (ns.map V.int) none (some 4), ∃ c, x = V.int c := by
      intro x h
      rcases List.mem_append.mp h with h | h
      · exact ⟨6, List.mem_singleton.mp h⟩
      · obtain ⟨c, _, rfl⟩ := List.mem_map.mp (List.mem_of_mem_drop (List.mem_of_mem_take h))
        exact ⟨c, rfl⟩
    have hxl : ([V.int 6] ++ cutV (ns.map V.int) none (some 4)).length ≤ 64 := by
      have h := cutV_length (ns.map V.int) none (some 4)
      rw [List.length_map] at h
      rw [List.length_append]
      show 1 + _ ≤ 64
      omega
    have eA := upd_same (H := upd (upd H l (.lst [.int 6])) b (.lst (cutV (ns.map V.int) none (some 4)))) (a := A) (o := .lst ([V.int 6] ++ cutV (ns.map V.int) none (some 4)))
    generalize [V.int 6] ++ cutV (ns.map V.int) none (some 4) = xs at *
    generalize upd (upd (upd H l (.lst [.int 6])) b (.lst (cutV (ns.map V.int) none (some 4)))) A (.lst xs) = H1 at *
    refine ⟨_, rfl, A, _, rfl, .inl (.of eA), _, rfl, ?_, ?_, for_range (lo := 0) (n := _) (fun i σ H' => H' A = some (.lst xs) ∧ ∃ x2 x3 x4 x5 x6 x7 x8 x9 x10 x11, σ = [some (.ref a), some (.ref A), x2, x3, x4, x5, x6, x7, x8, x9, x10, x11]) ?_ ?_ ?_⟩
    · omega
    · omega
    · exact ⟨eA, none, none, none, none, none, none, none, none, none, none, rfl⟩
    · clear eA
      rintro i σ H2 hi ⟨eA, x2, x3, x4, x5, x6, x7, x8, x9, x10, x11, rfl⟩
      rw [Int.toNat_natCast] at hi
      obtain ⟨c, hc⟩ := hxs _ (List.getElem_mem hi)
      have gi : xs[i]? = some (V.int c) := by rw [List.getElem?_eq_getElem hi, hc]
      refine ⟨_, rfl, _, rfl, A, _, _, _, rfl, rfl, .of eA, at_of (j := i) (by omega) gi, c, rfl, fun p z hp hz => ?_⟩
      have Ap : A ≠ p := ne_of_none eA hp
      have eA1 : (upd H2 p (.lst [.int z])) A = some (.lst xs) := by rw [upd_ne Ap]; exact eA
      have ep1 : (upd H2 p (.lst [.int z])) p = some (.lst [.int z]) := upd_same
      generalize upd H2 p (.lst [.int z]) = H3 at *
      clear hp
      -- twice, size
      refine ⟨_, rfl, p, 6, z, rfl, ep1, hz, by decide, by decide +kernel, fun d y d0 d1 y0 => ⟨rfl, ?_⟩⟩
      refine ⟨fun σ H' => ∃ (m y : Int), (m = 13 ∨ m = 40) ∧ 0 ≤ y ∧ H' p = some (.lst [.int y]) ∧ H' A = some (.lst xs) ∧ σ = [some (.ref a), some (.ref A), some (.int (0 + (i : Int))), some (.ref p), some (.bl (decide (V.int d = V.int 5))), some (.int m), x6, x7, x8, x9, x10, x11],
        ⟨_, rfl, p, 8, y, rfl, upd_same, y0, by decide, by decide +kernel, fun d' y' _ _ y0' => ⟨rfl, _, rfl, ite2 (fun _ => ⟨_, rfl, rfl, _, rfl, ite2 (fun _ => ?_) (fun _ => ?_)⟩) (fun _ => ?_)⟩⟩, ?_⟩
      · exact ⟨40, y', .inr rfl, y0', upd_same, by rw [upd_ne Ap, upd_ne Ap]; exact eA1, rfl⟩
      · exact ⟨13, y', .inl rfl, y0', upd_same, by rw [upd_ne Ap, upd_ne Ap]; exact eA1, rfl⟩
      · exact ⟨13, y', .inl rfl, y0', upd_same, by rw [upd_ne Ap, upd_ne Ap]; exact eA1, rfl⟩
      clear ep1 eA1 hz y0
      rintro σ H4 ⟨m, y, hm, y0, ep, eA, rfl⟩
      have hm2 : 0 < m ∧ m ≤ 40 := by omega
      refine ⟨_, rfl, _, rfl, p, y, m, rfl, ep, y0, hm2.1, by omega, fun F r y1 H5 hF kp ep5 y10 eF tr sr lr => ?_⟩
      have eA5 := kp _ _ eA Ap
      have pF : F ≠ p := fun z => by rw [z, ep] at hF; cases hF
      refine ⟨_, rfl, _, rfl, _, _, rfl, rfl, p, y1, m + 1, rfl, ep5, y10, by omega, by omega, fun S s y2 H6 hS2 kp6 ep6 y20 eS ts ss ls => ?_⟩
      have eA6 := kp6 _ _ eA5 Ap
      have eF6 := kp6 _ _ eF pF
      -- if twice
      refine ⟨fun σ H' => ∃ (S : Addr) (s : List Int), H' S = some (.lst (s.map V.int)) ∧ Trm s ∧ Sz 101 s ∧ (s.length : Int) ≤ 40 ∧ H' A = some (.lst xs) ∧ H' F = some (.lst (r.map V.int)) ∧ σ = [some (.ref a), some (.ref A), some (.int (0 + (i : Int))), some (.ref p), some (.bl (decide (V.int d = V.int 5))), some (.int m), some (.ref F), some (.ref S), x8, x9, x10, x11],
        ⟨_, rfl, _, rfl, ite2 (fun _ => ?_) (fun _ => ?_)⟩, ?_⟩
      · refine ⟨_, rfl, F, _, rfl, .inl (.of eF6), fun S2 hS3 => ⟨S2, r, upd_same, tr, sr, by omega, same_upd hS3 _ _ eA6, same_upd hS3 _ _ eF6, rfl⟩⟩
      · exact ⟨S, s, eS, ts, ss, by omega, eA6, eF6, rfl⟩
      clear eA5 eA6 eF6 eF eS ts ss ls kp6 ep6 kp ep5 ep eA hF hS2
      clear S s
      rintro σ H7 ⟨S, s, eS, ts, ss, ls, eA, eF, rfl⟩
      have pok : POk 101 r s := ⟨sr, ss, by decide, by decide, by omega, by omega⟩
      -- handed
      refine ⟨_, rfl, F, _, rfl, .inl (.of eF), fun G1 hG1 => ⟨_, rfl, S, _, rfl, .inl (.of (same_upd hG1 _ _ eS)), fun G2 hG2 => ⟨(by show 2 ≤ sizeLine; decide), fun L hL => ?_⟩⟩⟩
      have s1 := ((same_upd (o := .lst (r.map V.int)) hG1).trans (same_upd (o := .lst (s.map V.int)) hG2)).trans (same_upd (o := .lst [.ref G1, .ref G2]) hL)
      have e1 := ((same_upd (o := .lst (s.map V.int)) hG2).trans (same_upd (o := .lst [.ref G1, .ref G2]) hL)) _ _ (upd_same (H := H7) (a := G1) (o := .lst (r.map V.int)))
      have e2 := (same_upd (o := .lst [.ref G1, .ref G2]) hL) _ _ (upd_same (H := upd H7 G1 (.lst (r.map V.int))) (a := G2) (o := .lst (s.map V.int)))
      have eL := upd_same (H := upd (upd H7 G1 (.lst (r.map V.int))) G2 (.lst (s.map V.int))) (a := L) (o := .lst [.ref G1, .ref G2])
      have AG : A ≠ G1 := ne_of_none eA hG1
      have FG : F ≠ G1 := ne_of_none eF hG1
      have SG : S ≠ G1 := ne_of_none eS hG1
      have GG : G1 ≠ G2 := ne_of_none (upd_same (H := H7) (a := G1) (o := .lst (r.map V.int))) hG2
      have GL : G1 ≠ L := ne_of_none ((same_upd (o := .lst (s.map V.int)) hG2) _ _ (upd_same (H := H7) (a := G1) (o := .lst (r.map V.int)))) hL
      have eA := s1 _ _ eA
      have eF := s1 _ _ eF
      have eS := s1 _ _ eS
      generalize upd (upd (upd H7 G1 (.lst (r.map V.int))) G2 (.lst (s.map V.int))) L (.lst [.ref G1, .ref G2]) = H8 at *
      clear s1 hG1 hG2 hL
      -- found
      refine ⟨_, rfl, L, _, _, _, rfl, rfl, .of eL, atI_nat (j := 0) rfl, _, rfl, L, _, _, _, rfl, rfl, .of eL, atI_nat (j := 1) rfl, G1, G2, r, s, 101, rfl, e1, e2, pok, fun D H9 hD s9 eD => ?_⟩
      have AD : A ≠ D := ne_of_none eA hD
      have FD : F ≠ D := ne_of_none eF hD
      have SD : S ≠ D := ne_of_none eS hD
      have GD1 : G1 ≠ D := ne_of_none e1 hD
      have GD2 : G2 ≠ D := ne_of_none e2 hD
      have LD : L ≠ D := ne_of_none eL hD
      have eA := s9 _ _ eA
      have eF := s9 _ _ eF
      have eS := s9 _ _ eS
      have e1 := s9 _ _ e1
      have e2 := s9 _ _ e2
      have eL := s9 _ _ eL
      clear s9 hD
      refine ⟨_, rfl, _, rfl, _, rfl, F, S, D, r, s, 101, rfl, eF, eS, eD, tr, ts, pok, by decide, fun H10 s10 => ⟨_, rfl, ?_⟩⟩
      refine ⟨_, rfl, _, rfl, _, rfl, (by show 2 ≤ sizeLine; decide), fun L2 hL2 => ?_⟩
      have s11 := s10.trans (same_upd (o := .lst [.ref F, .ref S]) hL2)
      refine ⟨.list [.list (r.map PyData.int), .list (s.map PyData.int)], .list [.list (r.map PyData.int), .list (s.map PyData.int)], .lst (.of (s11 _ _ eL)) (.cons (.lst (.of (s11 _ _ e1)) dp_ints) (.cons (.lst (.of (s11 _ _ e2)) dp_ints) .nil)),
        .lst (.of upd_same) (.cons (.lst (.of (s11 _ _ eF)) dp_ints) (.cons (.lst (.of (s11 _ _ eS)) dp_ints) .nil)), two_ok r s, two_ok r s, _, rfl, ?_⟩
      rw [SeqAt.eqv_refl _ (SeqAt.canLay_of_shaped (two_ok r s))]
      refine iteF ?_
      generalize upd H10 L2 (.lst [.ref F, .ref S]) = H11 at *
      have eA := s11 _ _ eA
      have eF := s11 _ _ eF
      have eS := s11 _ _ eS
      have e1 := s11 _ _ e1
      have e2 := s11 _ _ e2
      have eL := s11 _ _ eL
      have eD := s11 _ _ eD
      clear s11 s10 hL2
      -- the other way round
      refine ⟨_, rfl, _, rfl, rfl, rfl, S, F, s, r, 101, rfl, eS, eF, pok.symm, fun D2 H12 _ s12 eD2 => ⟨_, rfl, ?_⟩⟩
      rw [prod_comm] at eD2
      refine ⟨.list ((prodL r s).map PyData.int), .list ((prodL r s).map PyData.int), .lst (.of eD2) dp_ints, .lst (.of (s12 _ _ eD)) dp_ints, list_ok _, list_ok _, _, rfl, ?_⟩
      rw [SeqAt.eqv_refl _ (SeqAt.canLay_of_shaped (list_ok _))]
      refine iteF ?_
      -- if size == 13
      have pok2 : POk 2842 (prodL r s) s := ⟨(prod_size pok).mono (by decide), ss.mono (by decide), by decide, by decide, by have := prod_length r s; omega, by omega⟩
      refine ⟨fun σ H' => Same H12 H' ∧ ∃ x10, σ = [some (.ref a), some (.ref A), some (.int (0 + (i : Int))), some (.ref p), some (.bl (decide (V.int d = V.int 5))), some (.int m), some (.ref F), some (.ref S), some (.ref L), some (.ref D), x10, x11],
        ⟨_, rfl, rfl, _, rfl, ite2 (fun _ => ?_) (fun _ => ⟨Same.refl _, _, rfl⟩)⟩, ?_⟩
      · refine ⟨_, rfl, _, rfl, L, _, _, _, rfl, rfl, .of (s12 _ _ eL), atI_nat (j := 1) rfl, D, G2, prodL r s, s, 2842, rfl, s12 _ _ eD, s12 _ _ e2, pok2, fun M H13 _ s13 eM => ?_⟩
        have s123 := s12.trans s13
        have vM : VOk (prodL (prodL r s) s) 2 := ⟨8324, 9, (prod_size pok2).mono (by decide), by have := prod_length (prodL r s) s; have := prod_length r s; show _ ≤ 512; show (2 : Int).natAbs + _ ≤ 512; omega, by decide, by decide, by have := prod_length (prodL r s) s; have := prod_length r s; omega, by have := prod_length (prodL r s) s; have := prod_length r s; omega⟩
        refine ⟨_, rfl, _, rfl, _, rfl, D, S, M, prodL r s, s, 2842, rfl, s123 _ _ eD, s123 _ _ eS, eM, prod_trm r s, ts, pok2, by decide, fun H14 s14 => ⟨_, rfl, _, rfl, M, _, 2, rfl, .of (s14 _ _ eM), vM, fun H15 s15 => ⟨_, rfl, M, _, 2, rfl, .of (s15 _ _ (s14 _ _ eM)), vM, rfl, _, rfl, iteNS rfl ⟨(s13.trans s14).trans s15, _, rfl⟩⟩⟩⟩
      clear x10
      rintro σ H13 ⟨s13, x10, rfl⟩
      have s123 := s12.trans s13
      have eA := s123 _ _ eA
      have eF := s123 _ _ eF
      have eS := s123 _ _ eS
      have e1 := s123 _ _ e1
      have e2 := s123 _ _ e2
      have eL := s123 _ _ eL
      have eD := s123 _ _ eD
      clear s123 s13 s12 eD2
      -- found.append(1)
      refine ⟨_, rfl, .inl ⟨rfl, _, .of eD⟩, D, _, _, rfl, rfl, eD, ?_, ?_⟩
      · rw [List.length_map]; have := prod_length r s; exact small1000 (by omega)
      have kD : ∀ b o, H13 b = some o → b ≠ D → (upd H13 D (.lst ((prodL r s).map V.int ++ [V.int 1]))) b = some o := fun b o e nb => by rw [upd_ne nb]; exact e
      have eA := kD _ _ eA AD
      have eF := kD _ _ eF FD
      have eS := kD _ _ eS SD
      have e1 := kD _ _ e1 GD1
      have e2 := kD _ _ e2 GD2
      have eL := kD _ _ eL LD
      have eD := upd_same (H := H13) (a := D) (o := .lst ((prodL r s).map V.int ++ [V.int 1]))
      generalize upd H13 D (.lst ((prodL r s).map V.int ++ [V.int 1])) = H14 at *
      clear kD
      refine ⟨_, rfl, L, _, _, _, rfl, rfl, .of eL, atI_nat (j := 0) rfl, _, rfl, L, _, _, _, rfl, rfl, .of eL, atI_nat (j := 1) rfl, G1, G2, r, s, 101, rfl, e1, e2, pok, fun D3 H15 hD3 s15 eD3 => ⟨_, rfl, _, rfl, _, rfl, D, _, rfl, .of (s15 _ _ eD), fun Y hY => ?_⟩⟩
      refine ⟨.list ((prodL r s).map PyData.int), .list ((prodL r s).map PyData.int), .lst (.of (same_upd hY _ _ eD3)) dp_ints, .lst (.of ?_) dp_ints, list_ok _, list_ok _, _, rfl, ?_⟩
      · rw [upd_same]
        exact congrArg (fun z => some (HO.lst z)) (cut_init _ _)
      rw [SeqAt.eqv_refl _ (SeqAt.canLay_of_shaped (list_ok _))]
      refine iteF ?_
      have s16 := s15.trans (same_upd (o := .lst (cutV ((prodL r s).map V.int ++ [V.int 1]) none (some (-1)))) hY)
      generalize upd H15 Y (.lst (cutV ((prodL r s).map V.int ++ [V.int 1]) none (some (-1)))) = H16 at *
      have eA := s16 _ _ eA
      have eF := s16 _ _ eF
      have eS := s16 _ _ eS
      have e1 := s16 _ _ e1
      have e2 := s16 _ _ e2
      have eL := s16 _ _ eL
      clear s16 s15 eD3 hD3 eD hY
      -- longer
      refine ⟨_, rfl, L, _, _, _, rfl, rfl, .of eL, atI_nat (j := 0) rfl, ?_⟩
      refine ⟨_, rfl, .inl ⟨rfl, _, .of e1⟩, G1, _, _, rfl, rfl, e1, ?_, ?_⟩
      · rw [List.length_map]; exact small1000 (by omega)
      have kD : ∀ b o, H16 b = some o → b ≠ G1 → (upd H16 G1 (.lst (r.map V.int ++ [V.int 2]))) b = some o := fun b o e nb => by rw [upd_ne nb]; exact e
      have eA := kD _ _ eA AG
      have eF := kD _ _ eF FG
      have eS := kD _ _ eS SG
      have e2 := kD _ _ e2 GG.symm
      have eL := kD _ _ eL GL.symm
      have e1 : (upd H16 G1 (.lst (r.map V.int ++ [V.int 2]))) G1 = some (.lst ((r ++ [2]).map V.int)) := by rw [upd_same, List.map_append]; rfl
      generalize upd H16 G1 (.lst (r.map V.int ++ [V.int 2])) = H17 at *
      clear kD
      have pok3 : POk 101 (r ++ [2]) s := by
        refine ⟨fun x hx => ?_, ss, by decide, by decide, by rw [List.length_append]; show r.length + 1 ≤ 120; omega, by omega⟩
        rcases List.mem_append.mp hx with h | h
        · exact sr x h
        · rw [List.mem_singleton.mp h]; decide +kernel
      have tr2 : Trm (r ++ [2]) := fun s2 a2 e => by
        have := List.append_inj_right' e rfl
        have h3 : (2 : Int) = a2 := by injection this
        rw [← h3]; decide
      refine ⟨_, rfl, (by show 1 ≤ sizeLine; decide), fun N hN => ⟨F, N, _, _, rfl, rfl, same_upd hN _ _ eF, upd_same, ?_, fun FF hFF => ?_⟩⟩
      · rw [List.length_map]; exact Nat.le_of_lt (small1000 (by show r.length + 1 ≤ 1000; omega))
      have s18 := (same_upd (o := .lst [.int 2]) hN).trans (same_upd (o := .lst (r.map V.int ++ [.int 2])) hFF)
      have eFF : (upd (upd H17 N (.lst [.int 2])) FF (.lst (r.map V.int ++ [.int 2]))) FF = some (.lst ((r ++ [2]).map V.int)) := by rw [upd_same, List.map_append]; rfl
      generalize upd (upd H17 N (.lst [.int 2])) FF (.lst (r.map V.int ++ [.int 2])) = H18 at *
      refine ⟨_, rfl, _, rfl, L, _, _, _, rfl, rfl, .of (s18 _ _ eL), atI_nat (j := 0) rfl, _, rfl, L, _, _, _, rfl, rfl, .of (s18 _ _ eL), atI_nat (j := 1) rfl, G1, G2, r ++ [2], s, 101, rfl, s18 _ _ e1, s18 _ _ e2, pok3, fun D4 H19 _ s19 eD4 => ?_⟩
      refine ⟨FF, S, D4, r ++ [2], s, 101, rfl, s19 _ _ eFF, s19 _ _ (s18 _ _ eS), eD4, tr2, ts, pok3, by decide, fun H20 s20 => ⟨_, rfl, ?_⟩⟩
      exact ⟨s20 _ _ (s19 _ _ (s18 _ _ eA)), _, _, _, _, _, _, _, _, _, _, rfl⟩
    · rintro σ H' _
      exact k _
end
theorem all_mk {l : PySem.W.OpenLaw} {w : World} {K : PySem.W.Frag} {h : Heap} {mg : Str → Option Value} {fa f_value_at f_without_zeros f_differences_of f_one_earlier f_polynomial_through f_product f_law_is_integer f_law_is_integers f_law_spring f_law_draw f_law_value f_law_terms f_law_right f_law : Addr} (X : K.In h) (G : h.Ns mainGlobals mg) (hfa : mg "law" = some (.ref fa))
    {od_value_at an_value_at : Option Addr} {sl_value_at : Array (Option Value)} {oc_value_at kV_value_at dc_value_at pm_value_at cd_value_at ct_value_at : Value}
    {od_without_zeros an_without_zeros : Option Addr} {sl_without_zeros : Array (Option Value)} {oc_without_zeros kV_without_zeros dc_without_zeros pm_without_zeros cd_without_zeros ct_without_zeros : Value}
    {od_differences_of an_differences_of : Option Addr} {sl_differences_of : Array (Option Value)} {oc_differences_of kV_differences_of dc_differences_of pm_differences_of cd_differences_of ct_differences_of : Value}
    {od_one_earlier an_one_earlier : Option Addr} {sl_one_earlier : Array (Option Value)} {oc_one_earlier kV_one_earlier dc_one_earlier pm_one_earlier cd_one_earlier ct_one_earlier : Value}
    {od_polynomial_through an_polynomial_through : Option Addr} {sl_polynomial_through : Array (Option Value)} {oc_polynomial_through kV_polynomial_through dc_polynomial_through pm_polynomial_through cd_polynomial_through ct_polynomial_through : Value}
    {od_product an_product : Option Addr} {sl_product : Array (Option Value)} {oc_product kV_product dc_product pm_product cd_product ct_product : Value}
    {od_law_is_integer an_law_is_integer : Option Addr} {sl_law_is_integer : Array (Option Value)} {oc_law_is_integer kV_law_is_integer dc_law_is_integer pm_law_is_integer cd_law_is_integer ct_law_is_integer : Value}
    {od_law_is_integers an_law_is_integers : Option Addr} {sl_law_is_integers : Array (Option Value)} {oc_law_is_integers kV_law_is_integers dc_law_is_integers pm_law_is_integers cd_law_is_integers ct_law_is_integers : Value}
    {od_law_spring an_law_spring : Option Addr} {sl_law_spring : Array (Option Value)} {oc_law_spring kV_law_spring dc_law_spring pm_law_spring cd_law_spring ct_law_spring : Value}
    {od_law_draw an_law_draw : Option Addr} {sl_law_draw : Array (Option Value)} {oc_law_draw kV_law_draw dc_law_draw pm_law_draw cd_law_draw ct_law_draw : Value}
    {od_law_value an_law_value : Option Addr} {sl_law_value : Array (Option Value)} {oc_law_value kV_law_value dc_law_value pm_law_value cd_law_value ct_law_value : Value}
    {od_law_terms an_law_terms : Option Addr} {sl_law_terms : Array (Option Value)} {oc_law_terms kV_law_terms dc_law_terms pm_law_terms cd_law_terms ct_law_terms : Value}
    {od_law_right an_law_right : Option Addr} {sl_law_right : Array (Option Value)} {oc_law_right kV_law_right dc_law_right pm_law_right cd_law_right ct_law_right : Value}
    {od_law an_law : Option Addr} {sl_law : Array (Option Value)} {oc_law kV_law dc_law pm_law cd_law ct_law : Value}
    (a_value_at : PySem.W.nsIn K mainGlobals "value_at" = some (some (.ref f_value_at)))
    (l_value_at : K.lookup f_value_at = some ⟨oc_value_at, od_value_at, .func (PySem.W.fnOf "value_at" "value_at" (defArgs s_value_at) (defBody s_value_at) (defScope s_value_at) .none kV_value_at dc_value_at pm_value_at an_value_at cd_value_at ct_value_at), sl_value_at⟩)
    (c_value_at : PySem.W.codeIn K cd_value_at "value_at" = true)
    (k_value_at : PySem.W.keepIn K (.ref f_value_at) = true)
    (a_without_zeros : PySem.W.nsIn K mainGlobals "without_zeros" = some (some (.ref f_without_zeros)))
    (l_without_zeros : K.lookup f_without_zeros = some ⟨oc_without_zeros, od_without_zeros, .func (PySem.W.fnOf "without_zeros" "without_zeros" (defArgs s_without_zeros) (defBody s_without_zeros) (defScope s_without_zeros) .none kV_without_zeros dc_without_zeros pm_without_zeros an_without_zeros cd_without_zeros ct_without_zeros), sl_without_zeros⟩)
    (c_without_zeros : PySem.W.codeIn K cd_without_zeros "without_zeros" = true)
    (k_without_zeros : PySem.W.keepIn K (.ref f_without_zeros) = true)
    (a_differences_of : PySem.W.nsIn K mainGlobals "differences_of" = some (some (.ref f_differences_of)))
    (l_differences_of : K.lookup f_differences_of = some ⟨oc_differences_of, od_differences_of, .func (PySem.W.fnOf "differences_of" "differences_of" (defArgs s_differences_of) (defBody s_differences_of) (defScope s_differences_of) .none kV_differences_of dc_differences_of pm_differences_of an_differences_of cd_differences_of ct_differences_of), sl_differences_of⟩)
    (c_differences_of : PySem.W.codeIn K cd_differences_of "differences_of" = true)
    (k_differences_of : PySem.W.keepIn K (.ref f_differences_of) = true)
    (a_one_earlier : PySem.W.nsIn K mainGlobals "_one_earlier" = some (some (.ref f_one_earlier)))
    (l_one_earlier : K.lookup f_one_earlier = some ⟨oc_one_earlier, od_one_earlier, .func (PySem.W.fnOf "_one_earlier" "_one_earlier" (defArgs s_one_earlier) (defBody s_one_earlier) (defScope s_one_earlier) .none kV_one_earlier dc_one_earlier pm_one_earlier an_one_earlier cd_one_earlier ct_one_earlier), sl_one_earlier⟩)
    (c_one_earlier : PySem.W.codeIn K cd_one_earlier "_one_earlier" = true)
    (k_one_earlier : PySem.W.keepIn K (.ref f_one_earlier) = true)
    (a_polynomial_through : PySem.W.nsIn K mainGlobals "polynomial_through" = some (some (.ref f_polynomial_through)))
    (l_polynomial_through : K.lookup f_polynomial_through = some ⟨oc_polynomial_through, od_polynomial_through, .func (PySem.W.fnOf "polynomial_through" "polynomial_through" (defArgs s_polynomial_through) (defBody s_polynomial_through) (defScope s_polynomial_through) .none kV_polynomial_through dc_polynomial_through pm_polynomial_through an_polynomial_through cd_polynomial_through ct_polynomial_through), sl_polynomial_through⟩)
    (c_polynomial_through : PySem.W.codeIn K cd_polynomial_through "polynomial_through" = true)
    (k_polynomial_through : PySem.W.keepIn K (.ref f_polynomial_through) = true)
    (a_product : PySem.W.nsIn K mainGlobals "product" = some (some (.ref f_product)))
    (l_product : K.lookup f_product = some ⟨oc_product, od_product, .func (PySem.W.fnOf "product" "product" (defArgs s_product) (defBody s_product) (defScope s_product) .none kV_product dc_product pm_product an_product cd_product ct_product), sl_product⟩)
    (c_product : PySem.W.codeIn K cd_product "product" = true)
    (k_product : PySem.W.keepIn K (.ref f_product) = true)
    (a_law_is_integer : PySem.W.nsIn K mainGlobals "_law_is_integer" = some (some (.ref f_law_is_integer)))
    (l_law_is_integer : K.lookup f_law_is_integer = some ⟨oc_law_is_integer, od_law_is_integer, .func (PySem.W.fnOf "_law_is_integer" "_law_is_integer" (defArgs s_law_is_integer) (defBody s_law_is_integer) (defScope s_law_is_integer) .none kV_law_is_integer dc_law_is_integer pm_law_is_integer an_law_is_integer cd_law_is_integer ct_law_is_integer), sl_law_is_integer⟩)
    (c_law_is_integer : PySem.W.codeIn K cd_law_is_integer "_law_is_integer" = true)
    (k_law_is_integer : PySem.W.keepIn K (.ref f_law_is_integer) = true)
    (a_law_is_integers : PySem.W.nsIn K mainGlobals "_law_is_integers" = some (some (.ref f_law_is_integers)))
    (l_law_is_integers : K.lookup f_law_is_integers = some ⟨oc_law_is_integers, od_law_is_integers, .func (PySem.W.fnOf "_law_is_integers" "_law_is_integers" (defArgs s_law_is_integers) (defBody s_law_is_integers) (defScope s_law_is_integers) .none kV_law_is_integers dc_law_is_integers pm_law_is_integers an_law_is_integers cd_law_is_integers ct_law_is_integers), sl_law_is_integers⟩)
    (c_law_is_integers : PySem.W.codeIn K cd_law_is_integers "_law_is_integers" = true)
    (k_law_is_integers : PySem.W.keepIn K (.ref f_law_is_integers) = true)
    (a_law_spring : PySem.W.nsIn K mainGlobals "_law_spring" = some (some (.ref f_law_spring)))
    (l_law_spring : K.lookup f_law_spring = some ⟨oc_law_spring, od_law_spring, .func (PySem.W.fnOf "_law_spring" "_law_spring" (defArgs s_law_spring) (defBody s_law_spring) (defScope s_law_spring) .none kV_law_spring dc_law_spring pm_law_spring an_law_spring cd_law_spring ct_law_spring), sl_law_spring⟩)
    (c_law_spring : PySem.W.codeIn K cd_law_spring "_law_spring" = true)
    (k_law_spring : PySem.W.keepIn K (.ref f_law_spring) = true)
    (a_law_draw : PySem.W.nsIn K mainGlobals "_law_draw" = some (some (.ref f_law_draw)))
    (l_law_draw : K.lookup f_law_draw = some ⟨oc_law_draw, od_law_draw, .func (PySem.W.fnOf "_law_draw" "_law_draw" (defArgs s_law_draw) (defBody s_law_draw) (defScope s_law_draw) .none kV_law_draw dc_law_draw pm_law_draw an_law_draw cd_law_draw ct_law_draw), sl_law_draw⟩)
    (c_law_draw : PySem.W.codeIn K cd_law_draw "_law_draw" = true)
    (k_law_draw : PySem.W.keepIn K (.ref f_law_draw) = true)
    (a_law_value : PySem.W.nsIn K mainGlobals "_law_value" = some (some (.ref f_law_value)))
    (l_law_value : K.lookup f_law_value = some ⟨oc_law_value, od_law_value, .func (PySem.W.fnOf "_law_value" "_law_value" (defArgs s_law_value) (defBody s_law_value) (defScope s_law_value) .none kV_law_value dc_law_value pm_law_value an_law_value cd_law_value ct_law_value), sl_law_value⟩)
    (c_law_value : PySem.W.codeIn K cd_law_value "_law_value" = true)
    (k_law_value : PySem.W.keepIn K (.ref f_law_value) = true)
    (a_law_terms : PySem.W.nsIn K mainGlobals "_law_terms" = some (some (.ref f_law_terms)))
    (l_law_terms : K.lookup f_law_terms = some ⟨oc_law_terms, od_law_terms, .func (PySem.W.fnOf "_law_terms" "_law_terms" (defArgs s_law_terms) (defBody s_law_terms) (defScope s_law_terms) .none kV_law_terms dc_law_terms pm_law_terms an_law_terms cd_law_terms ct_law_terms), sl_law_terms⟩)
    (c_law_terms : PySem.W.codeIn K cd_law_terms "_law_terms" = true)
    (k_law_terms : PySem.W.keepIn K (.ref f_law_terms) = true)
    (a_law_right : PySem.W.nsIn K mainGlobals "_law_right" = some (some (.ref f_law_right)))
    (l_law_right : K.lookup f_law_right = some ⟨oc_law_right, od_law_right, .func (PySem.W.fnOf "_law_right" "_law_right" (defArgs s_law_right) (defBody s_law_right) (defScope s_law_right) .none kV_law_right dc_law_right pm_law_right an_law_right cd_law_right ct_law_right), sl_law_right⟩)
    (c_law_right : PySem.W.codeIn K cd_law_right "_law_right" = true)
    (k_law_right : PySem.W.keepIn K (.ref f_law_right) = true)
    (a_law : PySem.W.nsIn K mainGlobals "law" = some (some (.ref f_law)))
    (l_law : K.lookup f_law = some ⟨oc_law, od_law, .func (PySem.W.fnOf "law" "law" (defArgs s_law) (defBody s_law) (defScope s_law) .none kV_law dc_law pm_law an_law cd_law ct_law), sl_law⟩)
    (c_law : PySem.W.codeIn K cd_law "law" = true)
    (k_law : PySem.W.keepIn K (.ref f_law) = true)
    (z_all : PySem.W.nsIn K mainGlobals "all" = some none)
    (z_bool : PySem.W.nsIn K mainGlobals "bool" = some none)
    (z_enumerate : PySem.W.nsIn K mainGlobals "enumerate" = some none)
    (z_int : PySem.W.nsIn K mainGlobals "int" = some none)
    (z_isinstance : PySem.W.nsIn K mainGlobals "isinstance" = some none)
    (z_len : PySem.W.nsIn K mainGlobals "len" = some none)
    (z_list : PySem.W.nsIn K mainGlobals "list" = some none)
    (z_range : PySem.W.nsIn K mainGlobals "range" = some none)
    (z_zip : PySem.W.nsIn K mainGlobals "zip" = some none)
    : ∃ fd : FuncData, (∀ (s : Shared) (v : Value), BindsTo s fd ⟨[v], []⟩ [("script", v)]) ∧ ∀ base : Heap, K.In base → base.Ns mainGlobals mg → FnOk l.prog w K mg base CX0 4 fa fd ["script"] (spLaw K) := by
  have e := hfa.symm.trans (PySem.W.mg_of X G a_law)
  cases e
  have F_value_at := fun_mk (st := s_value_at) l_value_at c_value_at k_value_at
  have b_value_at := F_value_at.binds (ps := ["poly", "n"]) fun _ _ _ _ _ _ us hl => match us, hl with | [_, _], _ => rfl
  have F_without_zeros := fun_mk (st := s_without_zeros) l_without_zeros c_without_zeros k_without_zeros
  have b_without_zeros := F_without_zeros.binds (ps := ["poly"]) fun _ _ _ _ _ _ us hl => match us, hl with | [_], _ => rfl
  have F_differences_of := fun_mk (st := s_differences_of) l_differences_of c_differences_of k_differences_of
  have b_differences_of := F_differences_of.binds (ps := ["values"]) fun _ _ _ _ _ _ us hl => match us, hl with | [_], _ => rfl
  have F_one_earlier := fun_mk (st := s_one_earlier) l_one_earlier c_one_earlier k_one_earlier
  have b_one_earlier := F_one_earlier.binds (ps := ["differences"]) fun _ _ _ _ _ _ us hl => match us, hl with | [_], _ => rfl
  have F_polynomial_through := fun_mk (st := s_polynomial_through) l_polynomial_through c_polynomial_through k_polynomial_through
  have b_polynomial_through := F_polynomial_through.binds (ps := ["begin", "values"]) fun _ _ _ _ _ _ us hl => match us, hl with | [_, _], _ => rfl
  have F_product := fun_mk (st := s_product) l_product c_product k_product
  have b_product := F_product.binds (ps := ["one", "other"]) fun _ _ _ _ _ _ us hl => match us, hl with | [_, _], _ => rfl
  have F_law_is_integer := fun_mk (st := s_law_is_integer) l_law_is_integer c_law_is_integer k_law_is_integer
  have b_law_is_integer := F_law_is_integer.binds (ps := ["found"]) fun _ _ _ _ _ _ us hl => match us, hl with | [_], _ => rfl
  have F_law_is_integers := fun_mk (st := s_law_is_integers) l_law_is_integers c_law_is_integers k_law_is_integers
  have b_law_is_integers := F_law_is_integers.binds (ps := ["found"]) fun _ _ _ _ _ _ us hl => match us, hl with | [_], _ => rfl
  have F_law_spring := fun_mk (st := s_law_spring) l_law_spring c_law_spring k_law_spring
  have b_law_spring := F_law_spring.binds (ps := ["cell"]) fun _ _ _ _ _ _ us hl => match us, hl with | [_], _ => rfl
  have F_law_draw := fun_mk (st := s_law_draw) l_law_draw c_law_draw k_law_draw
  have b_law_draw := F_law_draw.binds (ps := ["spring", "many"]) fun _ _ _ _ _ _ us hl => match us, hl with | [_, _], _ => rfl
  have F_law_value := fun_mk (st := s_law_value) l_law_value c_law_value k_law_value
  have b_law_value := F_law_value.binds (ps := ["terms", "at"]) fun _ _ _ _ _ _ us hl => match us, hl with | [_, _], _ => rfl
  have F_law_terms := fun_mk (st := s_law_terms) l_law_terms c_law_terms k_law_terms
  have b_law_terms := F_law_terms.binds (ps := ["spring", "size"]) fun _ _ _ _ _ _ us hl => match us, hl with | [_, _], _ => rfl
  have F_law_right := fun_mk (st := s_law_right) l_law_right c_law_right k_law_right
  have b_law_right := F_law_right.binds (ps := ["first", "second", "found"]) fun _ _ _ _ _ _ us hl => match us, hl with | [_, _, _], _ => rfl
  have F_law := fun_mk (st := s_law) l_law c_law k_law
  have b_law := F_law.binds (ps := ["script"]) fun _ _ _ _ _ _ us hl => match us, hl with | [_], _ => rfl
  let T : Tx K mg := {  f_value_at := f_value_at, d_value_at := _, F_value_at := F_value_at, b_value_at := b_value_at, g_value_at := PySem.W.mg_of X G a_value_at, f_without_zeros := f_without_zeros, d_without_zeros := _, F_without_zeros := F_without_zeros, b_without_zeros := b_without_zeros, g_without_zeros := PySem.W.mg_of X G a_without_zeros, f_differences_of := f_differences_of, d_differences_of := _, F_differences_of := F_differences_of, b_differences_of := b_differences_of, g_differences_of := PySem.W.mg_of X G a_differences_of, f_one_earlier := f_one_earlier, d_one_earlier := _, F_one_earlier := F_one_earlier, b_one_earlier := b_one_earlier, g_one_earlier := PySem.W.mg_of X G a_one_earlier, f_polynomial_through := f_polynomial_through, d_polynomial_through := _, F_polynomial_through := F_polynomial_through, b_polynomial_through := b_polynomial_through, g_polynomial_through := PySem.W.mg_of X G a_polynomial_through, f_product := f_product, d_product := _, F_product := F_product, b_product := b_product, g_product := PySem.W.mg_of X G a_product, f_law_is_integer := f_law_is_integer, d_law_is_integer := _, F_law_is_integer := F_law_is_integer, b_law_is_integer := b_law_is_integer, g_law_is_integer := PySem.W.mg_of X G a_law_is_integer, f_law_is_integers := f_law_is_integers, d_law_is_integers := _, F_law_is_integers := F_law_is_integers, b_law_is_integers := b_law_is_integers, g_law_is_integers := PySem.W.mg_of X G a_law_is_integers, f_law_spring := f_law_spring, d_law_spring := _, F_law_spring := F_law_spring, b_law_spring := b_law_spring, g_law_spring := PySem.W.mg_of X G a_law_spring, f_law_draw := f_law_draw, d_law_draw := _, F_law_draw := F_law_draw, b_law_draw := b_law_draw, g_law_draw := PySem.W.mg_of X G a_law_draw, f_law_value := f_law_value, d_law_value := _, F_law_value := F_law_value, b_law_value := b_law_value, g_law_value := PySem.W.mg_of X G a_law_value, f_law_terms := f_law_terms, d_law_terms := _, F_law_terms := F_law_terms, b_law_terms := b_law_terms, g_law_terms := PySem.W.mg_of X G a_law_terms, f_law_right := f_law_right, d_law_right := _, F_law_right := F_law_right, b_law_right := b_law_right, g_law_right := PySem.W.mg_of X G a_law_right, f_law := fa, d_law := _, F_law := F_law, b_law := b_law, g_law := PySem.W.mg_of X G a_law, m_all := PySem.W.mg_none_of X G z_all, m_bool := PySem.W.mg_none_of X G z_bool, m_enumerate := PySem.W.mg_none_of X G z_enumerate, m_int := PySem.W.mg_none_of X G z_int, m_isinstance := PySem.W.mg_none_of X G z_isinstance, m_len := PySem.W.mg_none_of X G z_len, m_list := PySem.W.mg_none_of X G z_list, m_range := PySem.W.mg_none_of X G z_range, m_zip := PySem.W.mg_none_of X G z_zip }
  exact ⟨PySem.W.fnOf "law" "law" (defArgs s_law) (defBody s_law) (defScope s_law) .none kV_law dc_law pm_law an_law cd_law ct_law, fun s v => .of_eq rfl, fun base _ _ => ok_law T⟩
end K28
open PySem PySem.W PyProof.Rows
set_option maxHeartbeats 0 in
theorem PySem.Challenge.cw_plandays_k28_products_of_polynomials_holds : PySem.Challenge.rw_plandays_k28_products_of_polynomials.Holds := by
  w_on; o_law; k_head; (case hw => w_witness2)
  k_fill
  refine L2.walk_of (l := PySem.Challenge.rw_plandays_k28_products_of_polynomials) (n := 63) (k := 4) (x := "script") (CX := fun _ => L2.CX0) (sp := fun w => K28.spLaw _) rfl (by decide) rfl ⟨rfl, by decide, by decide⟩ (fun w h Y => PySem.W.kIn_of Y) ?F (fun _ _ a ns hl _ hS => ⟨a, ns, rfl, hS, hl, fun _ => rfl⟩) (fun _ _ _ _ _ h => h)
  case F =>
    intro w mg fa h KX G hmg
    refine' K28.all_mk KX G hmg ?a_value_at ?l_value_at ?c_value_at ?k_value_at ?a_without_zeros ?l_without_zeros ?c_without_zeros ?k_without_zeros ?a_differences_of ?l_differences_of ?c_differences_of ?k_differences_of ?a_one_earlier ?l_one_earlier ?c_one_earlier ?k_one_earlier ?a_polynomial_through ?l_polynomial_through ?c_polynomial_through ?k_polynomial_through ?a_product ?l_product ?c_product ?k_product ?a_law_is_integer ?l_law_is_integer ?c_law_is_integer ?k_law_is_integer ?a_law_is_integers ?l_law_is_integers ?c_law_is_integers ?k_law_is_integers ?a_law_spring ?l_law_spring ?c_law_spring ?k_law_spring ?a_law_draw ?l_law_draw ?c_law_draw ?k_law_draw ?a_law_value ?l_law_value ?c_law_value ?k_law_value ?a_law_terms ?l_law_terms ?c_law_terms ?k_law_terms ?a_law_right ?l_law_right ?c_law_right ?k_law_right ?a_law ?l_law ?c_law ?k_law ?z_all ?z_bool ?z_enumerate ?z_int ?z_isinstance ?z_len ?z_list ?z_range ?z_zip
    (case a_value_at => k_is)
    (case l_value_at => k_is)
    (case c_value_at => k_is)
    (case k_value_at => k_is)
    (case a_without_zeros => k_is)
    (case l_without_zeros => k_is)
    (case c_without_zeros => k_is)
    (case k_without_zeros => k_is)
    (case a_differences_of => k_is)
    (case l_differences_of => k_is)
    (case c_differences_of => k_is)
    (case k_differences_of => k_is)
    (case a_one_earlier => k_is)
    (case l_one_earlier => k_is)
    (case c_one_earlier => k_is)
    (case k_one_earlier => k_is)
    (case a_polynomial_through => k_is)
    (case l_polynomial_through => k_is)
    (case c_polynomial_through => k_is)
    (case k_polynomial_through => k_is)
    (case a_product => k_is)
    (case l_product => k_is)
    (case c_product => k_is)
    (case k_product => k_is)
    (case a_law_is_integer => k_is)
    (case l_law_is_integer => k_is)
    (case c_law_is_integer => k_is)
    (case k_law_is_integer => k_is)
    (case a_law_is_integers => k_is)
    (case l_law_is_integers => k_is)
    (case c_law_is_integers => k_is)
    (case k_law_is_integers => k_is)
    (case a_law_spring => k_is)
    (case l_law_spring => k_is)
    (case c_law_spring => k_is)
    (case k_law_spring => k_is)
    (case a_law_draw => k_is)
    (case l_law_draw => k_is)
    (case c_law_draw => k_is)
    (case k_law_draw => k_is)
    (case a_law_value => k_is)
    (case l_law_value => k_is)
    (case c_law_value => k_is)
    (case k_law_value => k_is)
    (case a_law_terms => k_is)
    (case l_law_terms => k_is)
    (case c_law_terms => k_is)
    (case k_law_terms => k_is)
    (case a_law_right => k_is)
    (case l_law_right => k_is)
    (case c_law_right => k_is)
    (case k_law_right => k_is)
    (case a_law => k_is)
    (case l_law => k_is)
    (case c_law => k_is)
    (case k_law => k_is)
    (case z_all => k_is)
    (case z_bool => k_is)
    (case z_enumerate => k_is)
    (case z_int => k_is)
    (case z_isinstance => k_is)
    (case z_len => k_is)
    (case z_list => k_is)
    (case z_range => k_is)
    (case z_zip => k_is)

