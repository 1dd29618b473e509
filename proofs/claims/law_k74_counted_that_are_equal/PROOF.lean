import PyProof.Rows.All
import Wide.All
import OpenK.AllK
import Wide.FinOn
import HandS.ForMost
import HandS.Wide
import HandS.Gcd
import HandS.SetFor
import HandS.Walk
import HandS.SlotsOwn
import HandS.Style
import HandS.Conv
import HandS.More
import HandS.Property
import HandS.MakeKwOnly
import HandS.Exc
import HandS.ExcOwn
import HandS.ExcInit
import HandS.ExcField
import HandS.ExcIs
import HandS.WordsExc
import HandS.NoneIn
import HandS.OwnEq
import HandS.IsInst
import HandS.Codes
import HandS.Defaults
import KE.KMathGC
import Flt.Len
import PySem.Challenge.RW_plandays_k74_counted_that_are_equal
set_option Elab.async false
set_option linter.all false
set_option maxRecDepth 100000
namespace K74
open PySem
/-! ### binomials of any integer, and polynomials in them -/
def fct : Nat → Int
  | 0 => 1
  | j + 1 => ((j : Int) + 1) * fct j
def fl (n : Int) : Nat → Int
  | 0 => 1
  | j + 1 => fl n j * (n - j)
theorem fct_pos : ∀ j, 0 < fct j
  | 0 => by decide
  | j + 1 => by
    have := fct_pos j
    show 0 < ((j : Int) + 1) * fct j
    exact Int.mul_pos (by omega) this
theorem fl_head (n : Int) : ∀ j, fl (n + 1) (j + 1) = (n + 1) * fl n j
  | 0 => by show 1 * (n + 1 - ((0 : Nat) : Int)) = (n + 1) * 1; omega
  | j + 1 => by
    have ih := fl_head n j
    show fl (n + 1) (j + 1) * (n + 1 - ((j + 1 : Nat) : Int)) = (n + 1) * (fl n j * (n - j))
    rw [ih, show n + 1 - ((j + 1 : Nat) : Int) = n - (j : Int) by omega, Int.mul_assoc]
theorem fl_step (n : Int) (j : Nat) : fl (n + 1) (j + 1) = fl n (j + 1) + ((j : Int) + 1) * fl n j := by
  rw [fl_head]
  show (n + 1) * fl n j = fl n j * (n - j) + ((j : Int) + 1) * fl n j
  grind
theorem fct_dvd : ∀ (j : Nat) (n : Int), fct j ∣ fl n j
  | 0, n => Int.one_dvd _
  | j + 1, n => by
    have ih := fct_dvd j
    have h0 : fl 0 (j + 1) = 0 := by
      have := fl_head (-1) j
      rw [show (-1 : Int) + 1 = 0 by omega, Int.zero_mul] at this
      exact this
    have st : ∀ m : Int, fct (j + 1) ∣ ((j : Int) + 1) * fl m j := fun m => Int.mul_dvd_mul_left _ (ih m)
    have up : ∀ m : Nat, fct (j + 1) ∣ fl (m : Int) (j + 1) := by
      intro m
      induction m with
      | zero => rw [show ((0 : Nat) : Int) = 0 from rfl, h0]; exact Int.dvd_zero _
      | succ m im =>
        rw [show ((m + 1 : Nat) : Int) = (m : Int) + 1 by omega, fl_step]
        exact Int.dvd_add im (st _)
    have dn : ∀ m : Nat, fct (j + 1) ∣ fl (-(m : Int)) (j + 1) := by
      intro m
      induction m with
      | zero => rw [show -((0 : Nat) : Int) = 0 from rfl, h0]; exact Int.dvd_zero _
      | succ m im =>
        have h := fl_step (-((m + 1 : Nat) : Int)) j
        rw [show -((m + 1 : Nat) : Int) + 1 = -(m : Int) by omega] at h
        have e : fl (-((m + 1 : Nat) : Int)) (j + 1) = fl (-(m : Int)) (j + 1) - ((j : Int) + 1) * fl (-((m + 1 : Nat) : Int)) j := by omega
        rw [e]
        exact Int.dvd_sub im (st _)
    rcases Int.le_total 0 n with h | h
    · obtain ⟨m, rfl⟩ := Int.eq_ofNat_of_zero_le h
      exact up m
    · obtain ⟨m, hm⟩ := Int.eq_ofNat_of_zero_le (show 0 ≤ -n by omega)
      obtain rfl : n = -(m : Int) := by omega
      exact dn m
/-- the binomial of n over j -/
def W (n : Int) (j : Nat) : Int := fl n j / fct j
theorem W_mul (n : Int) (j : Nat) : W n j * fct j = fl n j := Int.ediv_mul_cancel (fct_dvd j n)
theorem fct_inj {a b : Int} {j : Nat} (h : a * fct j = b * fct j) : a = b := Int.eq_of_mul_eq_mul_right (by have := fct_pos j; omega) h
theorem W_r (n : Int) : W n 0 = 1 := rfl
theorem W_next (n : Int) (j : Nat) : W n (j + 1) * ((j : Int) + 1) = W n j * (n - j) := by
  refine fct_inj (j := j) ?_
  have h1 := W_mul n (j + 1)
  have h2 := W_mul n j
  have h3 : fl n (j + 1) = fl n j * (n - j) := rfl
  have h4 : fct (j + 1) = ((j : Int) + 1) * fct j := rfl
  rw [h4, h3, ← h2] at h1
  rw [Int.mul_assoc, h1]
  grind
theorem W_div (n : Int) (j : Nat) : W n j * (n - j) / ((j : Int) + 1) = W n (j + 1) := by
  rw [← W_next]
  exact Int.mul_ediv_cancel _ (by omega)
theorem W_pascal (n : Int) (j : Nat) : W (n + 1) (j + 1) = W n (j + 1) + W n j := by
  refine fct_inj (j := j + 1) ?_
  have h1 := W_mul (n + 1) (j + 1)
  have h2 := W_mul n (j + 1)
  have h3 := W_mul n j
  have h4 : fct (j + 1) = ((j : Int) + 1) * fct j := rfl
  have h5 := fl_step n j
  rw [h1, h5, ← h2, ← h3, Int.add_mul, h4]
  grind
theorem W_nil (j : Nat) : W 0 (j + 1) = 0 := by
  have h0 : fl 0 (j + 1) = 0 := by
    have := fl_head (-1) j
    rw [show (-1 : Int) + 1 = 0 by omega, Int.zero_mul] at this
    exact this
  unfold W
  rw [h0, Int.zero_ediv]
theorem fl_size {n : Int} {b : Nat} : ∀ j : Nat, n.natAbs + j ≤ 2 ^ b → (fl n j).natAbs ≤ 2 ^ (b * j)
  | 0, _ => by show (1 : Int).natAbs ≤ 2 ^ (b * 0); rw [Nat.mul_zero]; decide
  | j + 1, h => by
    have ih := fl_size (n := n) (b := b) j (by omega)
    show (fl n j * (n - j)).natAbs ≤ _
    rw [Int.natAbs_mul, show b * (j + 1) = b * j + b from rfl, Nat.pow_add]
    exact Nat.mul_le_mul ih (by omega)
theorem W_size {n : Int} {b j : Nat} (h : n.natAbs + j ≤ 2 ^ b) : (W n j).natAbs ≤ 2 ^ (b * j) := by
  have h1 := W_mul n j
  have h2 := fct_pos j
  have h3 := fl_size (n := n) (b := b) j h
  rw [← h1, Int.natAbs_mul] at h3
  have : (W n j).natAbs * 1 ≤ (W n j).natAbs * (fct j).natAbs := Nat.mul_le_mul_left _ (by omega)
  omega
/-- the value of a polynomial's rest, from the index j on -/
def pols (n : Int) : Nat → List Int → Int
  | _, [] => 0
  | j, a :: r => a * W n j + pols n (j + 1) r
def pol (r : List Int) (n : Int) : Int := pols n 0 r
theorem pols_snoc (n a : Int) : ∀ (j : Nat) (l : List Int), pols n j (l ++ [a]) = pols n j l + a * W n (j + l.length)
  | j, [] => by show a * W n j + 0 = 0 + a * W n (j + 0); rw [Nat.add_zero]; omega
  | j, b :: r => by
    have ih := pols_snoc n a (j + 1) r
    show b * W n j + pols n (j + 1) (r ++ [a]) = b * W n j + pols n (j + 1) r + a * W n (j + (r.length + 1))
    rw [ih, show j + 1 + r.length = j + (r.length + 1) by omega]
    omega
theorem pol_take {n a : Int} {l : List Int} {i : Nat} (h : l[i]? = some a) : pol (l.take (i + 1)) n = pol (l.take i) n + a * W n i := by
  have hi := (List.getElem?_eq_some_iff.mp h).1
  unfold pol
  rw [List.take_add_one, h, show (some a).toList = [a] from rfl, pols_snoc, List.length_take, Nat.min_eq_left (by omega), Nat.zero_add]
theorem pols_step (n : Int) : ∀ (j : Nat) (r : List Int), pols (n + 1) (j + 1) r = pols n (j + 1) r + pols n j r
  | j, [] => rfl
  | j, a :: r => by
    have ih := pols_step n (j + 1) r
    show a * W (n + 1) (j + 1) + pols (n + 1) (j + 1 + 1) r = a * W n (j + 1) + pols n (j + 1 + 1) r + (a * W n j + pols n (j + 1) r)
    rw [ih, W_pascal, Int.mul_add]
    omega
/-- one day more: the polynomial without its first entry -/
theorem pol_step (n : Int) (r : List Int) : pol r (n + 1) - pol r n = pol (r.drop 1) n := by
  cases r with
  | nil => rfl
  | cons a r =>
    show a * W (n + 1) 0 + pols (n + 1) 1 r - (a * W n 0 + pols n 1 r) = pols n 0 r
    have h := pols_step n 0 r
    rw [Nat.zero_add] at h
    rw [h, W_r, W_r]
    omega
theorem pols_nil : ∀ (j : Nat) (r : List Int), pols 0 (j + 1) r = 0
  | _, [] => rfl
  | j, a :: r => by
    show a * W 0 (j + 1) + pols 0 (j + 1 + 1) r = 0
    rw [W_nil, pols_nil]
    omega
theorem pol_zero (r : List Int) : pol r 0 = (r.take 1).sum := by
  cases r with
  | nil => rfl
  | cons a r =>
    show a * W 0 0 + pols 0 (0 + 1) r = ([a] : List Int).sum
    rw [pols_nil, W_r]
    simp
/-! ### differences, and Newton's polynomial -/
def D (f : Int → Int) : Int → Int := fun n => f (n + 1) - f n
def Dk : Nat → (Int → Int) → Int → Int
  | 0, f => f
  | k + 1, f => Dk k (D f)
theorem Dk_succ : ∀ (k : Nat) (f : Int → Int), Dk (k + 1) f = D (Dk k f)
  | 0, _ => rfl
  | k + 1, f => Dk_succ k (D f)
theorem D_zero {f : Int → Int} (h : ∀ n, f n = 0) : ∀ n, D f n = 0 := fun n => by unfold D; rw [h, h]; rfl
theorem Dk_zero : ∀ (k : Nat) {f : Int → Int}, (∀ n, f n = 0) → ∀ n, Dk k f n = 0
  | 0, _, h => h
  | k + 1, _, h => Dk_zero k (D_zero h)
theorem Dk_le {f : Int → Int} {a b : Nat} (hab : a ≤ b) (h : ∀ n, Dk a f n = 0) : ∀ n, Dk b f n = 0 := by
  induction b with
  | zero => rw [Nat.le_zero.mp hab] at h; exact h
  | succ b ih =>
    rcases Nat.lt_or_ge b a with h1 | h1
    · rw [show b + 1 = a by omega]; exact h
    · rw [Dk_succ]; exact D_zero (ih h1)
theorem Dk_add : ∀ (k : Nat) (f g : Int → Int) (n : Int), Dk k (fun x => f x + g x) n = Dk k f n + Dk k g n
  | 0, _, _, _ => rfl
  | k + 1, f, g, n => by
    have ih := Dk_add k (D f) (D g) n
    show Dk k (D fun x => f x + g x) n = Dk k (D f) n + Dk k (D g) n
    rw [← ih]
    congr 1
    funext x
    show f (x + 1) + g (x + 1) - (f x + g x) = f (x + 1) - f x + (g (x + 1) - g x)
    omega
theorem Dk_mul : ∀ (k : Nat) (c : Int) (f : Int → Int) (n : Int), Dk k (fun x => c * f x) n = c * Dk k f n
  | 0, _, _, _ => rfl
  | k + 1, c, f, n => by
    have ih := Dk_mul k c (D f) n
    show Dk k (D fun x => c * f x) n = c * Dk k (D f) n
    rw [← ih]
    congr 1
    funext x
    show c * f (x + 1) - c * f x = c * (f (x + 1) - f x)
    rw [Int.mul_sub]
theorem Dk_shift : ∀ (k : Nat) (f : Int → Int) (d n : Int), Dk k (fun x => f (x + d)) n = Dk k f (n + d)
  | 0, _, _, _ => rfl
  | k + 1, f, d, n => by
    have ih := Dk_shift k (D f) d n
    show Dk k (D fun x => f (x + d)) n = Dk k (D f) (n + d)
    rw [← ih]
    congr 1
    funext x
    show f (x + 1 + d) - f (x + d) = f (x + d + 1) - f (x + d)
    rw [show x + 1 + d = x + d + 1 by omega]
theorem D_prod (f g : Int → Int) : D (fun x => f x * g x) = fun x => D f x * g (x + 1) + f x * D g x := by
  funext x
  show f (x + 1) * g (x + 1) - f x * g x = (f (x + 1) - f x) * g (x + 1) + f x * (g (x + 1) - g x)
  rw [Int.sub_mul, Int.mul_sub]
  omega
/-- a product of degrees i and j, its highest difference -/
theorem Dk_top : ∀ (s i j : Nat), i + j = s → ∃ c : Nat, 1 ≤ c ∧ ∀ (f g : Int → Int) (u v : Int), (∀ n, Dk i f n = u) → (∀ n, Dk j g n = v) → ∀ n, Dk (i + j) (fun x => f x * g x) n = c * (u * v) := by
  intro s
  induction s with
  | zero =>
    intro i j h
    obtain rfl : i = 0 := by omega
    obtain rfl : j = 0 := by omega
    refine ⟨1, Nat.le_refl _, fun f g u v hf hg n => ?_⟩
    show f n * g n = (1 : Nat) * (u * v)
    have h1 : f n = u := hf n
    have h2 : g n = v := hg n
    rw [h1, h2]; omega
  | succ s ih =>
    intro i j h
    match i, j, h with
    | 0, j + 1, h =>
      refine ⟨1, Nat.le_refl _, fun f g u v hf hg n => ?_⟩
      have e : (fun x => f x * g x) = fun x => u * g x := by funext x; rw [show f x = u from hf x]
      rw [e, Dk_mul, show 0 + (j + 1) = j + 1 by omega, hg]; omega
    | i + 1, 0, h =>
      refine ⟨1, Nat.le_refl _, fun f g u v hf hg n => ?_⟩
      have e : (fun x => f x * g x) = fun x => v * f x := by funext x; rw [show g x = v from hg x, Int.mul_comm]
      rw [e, Dk_mul, show i + 1 + 0 = i + 1 by omega, hf, Int.mul_comm]; omega
    | i + 1, j + 1, h =>
      obtain ⟨c1, l1, h1⟩ := ih i (j + 1) (by omega)
      obtain ⟨c2, l2, h2⟩ := ih (i + 1) j (by omega)
      refine ⟨c1 + c2, by omega, fun f g u v hf hg n => ?_⟩
      show Dk (i + 1 + j) (D fun x => f x * g x) n = _
      rw [D_prod, Dk_add]
      have a1 := h1 (D f) (fun x => g (x + 1)) u v hf (fun n => by rw [Dk_shift]; exact hg _) n
      have a2 := h2 f (D g) u v hf hg n
      rw [show i + (j + 1) = i + 1 + j by omega] at a1
      rw [a1, a2, show ((c1 + c2 : Nat) : Int) = (c1 : Int) + (c2 : Int) by omega, Int.add_mul]
theorem Dk_prod {a b : Nat} {f g : Int → Int} (hf : ∀ n, Dk a f n = 0) (hg : ∀ n, Dk b g n = 0) : ∀ n, Dk (a + b - 1) (fun x => f x * g x) n = 0 := by
  cases a with
  | zero => exact Dk_zero _ fun n => by rw [show f n = 0 from hf n, Int.zero_mul]
  | succ a =>
    cases b with
    | zero => exact Dk_zero _ fun n => by rw [show g n = 0 from hg n, Int.mul_zero]
    | succ b =>
      have e : a + 1 + (b + 1) - 1 = (a + b) + 1 := by omega
      rw [e, Dk_succ]
      -- both highest differences are constant
      have cf : ∀ n, Dk a f n = Dk a f 0 := by
        have st : ∀ n, Dk a f (n + 1) = Dk a f n := fun n => by
          have := hf n
          rw [Dk_succ] at this
          have h2 : Dk a f (n + 1) - Dk a f n = 0 := this
          omega
        intro n
        rcases Int.le_total 0 n with h | h
        · obtain ⟨m, rfl⟩ := Int.eq_ofNat_of_zero_le h
          induction m with
          | zero => rfl
          | succ m im => rw [show ((m + 1 : Nat) : Int) = (m : Int) + 1 by omega, st]; exact im (by omega)
        · obtain ⟨m, hm⟩ := Int.eq_ofNat_of_zero_le (show 0 ≤ -n by omega)
          obtain rfl : n = -(m : Int) := by omega
          clear hm h
          induction m with
          | zero => rfl
          | succ m im => rw [← st, show -((m + 1 : Nat) : Int) + 1 = -(m : Int) by omega]; exact im
      have cg : ∀ n, Dk b g n = Dk b g 0 := by
        have st : ∀ n, Dk b g (n + 1) = Dk b g n := fun n => by
          have := hg n
          rw [Dk_succ] at this
          have h2 : Dk b g (n + 1) - Dk b g n = 0 := this
          omega
        intro n
        rcases Int.le_total 0 n with h | h
        · obtain ⟨m, rfl⟩ := Int.eq_ofNat_of_zero_le h
          induction m with
          | zero => rfl
          | succ m im => rw [show ((m + 1 : Nat) : Int) = (m : Int) + 1 by omega, st]; exact im (by omega)
        · obtain ⟨m, hm⟩ := Int.eq_ofNat_of_zero_le (show 0 ≤ -n by omega)
          obtain rfl : n = -(m : Int) := by omega
          clear hm h
          induction m with
          | zero => rfl
          | succ m im => rw [← st, show -((m + 1 : Nat) : Int) + 1 = -(m : Int) by omega]; exact im
      obtain ⟨c, _, hc⟩ := Dk_top (a + b) a b rfl
      intro n
      unfold D
      rw [hc f g _ _ cf cg, hc f g _ _ cf cg]
      omega
/-- the differences of a polynomial -/
theorem D_pol (r : List Int) : D (pol r) = pol (r.drop 1) := by
  funext n
  exact pol_step n r
theorem Dk_pol : ∀ (k : Nat) (r : List Int), Dk k (pol r) = pol (r.drop k)
  | 0, _ => rfl
  | k + 1, r => by
    show Dk k (D (pol r)) = _
    rw [D_pol, Dk_pol k, List.drop_drop, Nat.add_comm]
theorem Dk_pol0 (r : List Int) : ∀ n, Dk r.length (pol r) n = 0 := fun n => by
  rw [Dk_pol, List.drop_length]
  rfl
/-- the first m differences of f at b -/
def newt : Nat → (Int → Int) → Int → List Int
  | 0, _, _ => []
  | m + 1, f, b => f b :: newt m (D f) b
theorem newt_length : ∀ (m : Nat) (f : Int → Int) (b : Int), (newt m f b).length = m
  | 0, _, _ => rfl
  | m + 1, f, b => by show (newt m (D f) b).length + 1 = m + 1; rw [newt_length]
theorem newt_get : ∀ (m : Nat) (f : Int → Int) (b : Int) (k : Nat), k < m → (newt m f b)[k]? = some (Dk k f b)
  | m + 1, f, b, 0, _ => rfl
  | m + 1, f, b, k + 1, h => by
    show (newt m (D f) b)[k]? = _
    rw [newt_get m (D f) b k (by omega)]
    rfl
theorem newton : ∀ (m : Nat) (f : Int → Int), (∀ n, Dk m f n = 0) → ∀ n, pol (newt m f 0) n = f n
  | 0, f, h, n => (h n).symm
  | m + 1, f, h, n => by
    have ih := newton m (D f) h
    have st : ∀ n, pol (newt (m + 1) f 0) (n + 1) - pol (newt (m + 1) f 0) n = f (n + 1) - f n := fun n => by
      rw [pol_step]
      exact ih n
    have h0 : pol (newt (m + 1) f 0) 0 = f 0 := by
      rw [pol_zero]
      show ([f 0] : List Int).sum = f 0
      simp
    rcases Int.le_total 0 n with h | h
    · obtain ⟨k, rfl⟩ := Int.eq_ofNat_of_zero_le h
      clear h
      induction k with
      | zero => exact h0
      | succ k ik =>
        have := st (k : Int)
        rw [show ((k + 1 : Nat) : Int) = (k : Int) + 1 by omega]
        omega
    · obtain ⟨k, hk⟩ := Int.eq_ofNat_of_zero_le (show 0 ≤ -n by omega)
      obtain rfl : n = -(k : Int) := by omega
      clear hk h
      induction k with
      | zero => exact h0
      | succ k ik =>
        have := st (-((k + 1 : Nat) : Int))
        rw [show -((k + 1 : Nat) : Int) + 1 = -(k : Int) by omega] at this
        omega
/-- the values of f at b, b + 1 .. -/
def vals (m : Nat) (f : Int → Int) (b : Int) : List Int := (List.range m).map fun (i : Nat) => f (b + (i : Int))
theorem vals_length (m : Nat) (f : Int → Int) (b : Int) : (vals m f b).length = m := by simp [vals]
theorem vals_get {m : Nat} {f : Int → Int} {b : Int} {i : Nat} (h : i < m) : (vals m f b)[i]? = some (f (b + (i : Int))) := by
  unfold vals
  rw [List.getElem?_map, List.getElem?_range h]
  rfl
/-- one row of differences -/
def nbr (r : List Int) : List Int := List.zipWith (fun v l => l - v) r (r.drop 1)
theorem nbr_length (r : List Int) : (nbr r).length = r.length - 1 := by
  unfold nbr
  rw [List.length_zipWith, List.length_drop]
  omega
theorem nbr_vals (m : Nat) (f : Int → Int) (b : Int) : nbr (vals (m + 1) f b) = vals m (D f) b := by
  apply List.ext_getElem?
  intro i
  by_cases h : i < m
  · rw [vals_get h]
    unfold nbr
    rw [List.getElem?_zipWith, vals_get (show i < m + 1 by omega), List.getElem?_drop, vals_get (show 1 + i < m + 1 by omega)]
    show some (f (b + ((1 + i : Nat) : Int)) - f (b + (i : Int))) = some (f (b + (i : Int) + 1) - f (b + (i : Int)))
    rw [show b + ((1 + i : Nat) : Int) = b + (i : Int) + 1 by omega]
  · have h1 : (nbr (vals (m + 1) f b)).length ≤ i := by rw [nbr_length, vals_length]; omega
    have h2 : (vals m (D f) b).length ≤ i := by rw [vals_length]; omega
    rw [List.getElem?_eq_none h1, List.getElem?_eq_none h2]
/-- the rows of differences, their first entries; the first k of them -/
def rowD : Nat → List Int → List Int
  | 0, r => r
  | k + 1, r => rowD k (nbr r)
theorem rowD_succ : ∀ (k : Nat) (r : List Int), rowD (k + 1) r = nbr (rowD k r)
  | 0, _ => rfl
  | k + 1, r => rowD_succ k (nbr r)
theorem rowD_length : ∀ (k : Nat) (r : List Int), (rowD k r).length = r.length - k
  | 0, _ => rfl
  | k + 1, r => by
    show (rowD k (nbr r)).length = _
    rw [rowD_length k, nbr_length]
    omega
def difs : Nat → List Int → List Int
  | 0, _ => []
  | k + 1, r => r.take 1 ++ difs k (nbr r)
theorem difs_vals : ∀ (m : Nat) (f : Int → Int) (b : Int), difs m (vals m f b) = newt m f b
  | 0, _, _ => rfl
  | m + 1, f, b => by
    show (vals (m + 1) f b).take 1 ++ difs m (nbr (vals (m + 1) f b)) = f b :: newt m (D f) b
    rw [nbr_vals, difs_vals m]
    have : (vals (m + 1) f b).take 1 = [f b] := by
      apply List.ext_getElem?
      intro i
      cases i with
      | zero =>
        rw [List.getElem?_take_of_lt (by omega), vals_get (by omega), show b + ((0 : Nat) : Int) = b by omega]
        rfl
      | succ i =>
        rw [List.getElem?_take_eq_none (by omega)]
        rfl
    rw [this]
    rfl
theorem difs_snoc : ∀ (k : Nat) (r : List Int), difs (k + 1) r = difs k r ++ (rowD k r).take 1
  | 0, r => by show r.take 1 ++ [] = [] ++ r.take 1; simp
  | k + 1, r => by
    show r.take 1 ++ difs (k + 1) (nbr r) = (r.take 1 ++ difs k (nbr r)) ++ (rowD k (nbr r)).take 1
    rw [difs_snoc k, List.append_assoc]
/-- a place earlier: from the last difference on -/
def earl : List Int → List Int
  | [] => []
  | d :: r => (d - (earl r).headD 0) :: earl r
theorem earl_newt : ∀ (m : Nat) (f : Int → Int) (b : Int), (∀ n, Dk m f n = 0) → earl (newt m f b) = newt m f (b - 1)
  | 0, _, _, _ => rfl
  | m + 1, f, b, h => by
    have ih := earl_newt m (D f) b h
    show (f b - (earl (newt m (D f) b)).headD 0) :: earl (newt m (D f) b) = f (b - 1) :: newt m (D f) (b - 1)
    rw [ih]
    congr 1
    cases m with
    | zero =>
      have : D f (b - 1) = 0 := h _
      unfold D at this
      rw [show b - 1 + 1 = b by omega] at this
      show f b - 0 = f (b - 1)
      omega
    | succ m =>
      show f b - D f (b - 1) = f (b - 1)
      unfold D
      rw [show b - 1 + 1 = b by omega]
      omega
/-- without the zeros at the end -/
def trim : List Int → List Int
  | [] => []
  | a :: r => match trim r with
    | [] => if a = 0 then [] else [a]
    | b :: s => a :: b :: s
theorem trim_snoc0 : ∀ r : List Int, trim (r ++ [0]) = trim r
  | [] => rfl
  | a :: r => by
    have ih := trim_snoc0 r
    show (match trim (r ++ [0]) with | [] => if a = 0 then [] else [a] | b :: s => a :: b :: s) = _
    rw [ih]
    rfl
theorem trim_snoc : ∀ (r : List Int) {a : Int}, a ≠ 0 → trim (r ++ [a]) = r ++ [a]
  | [], a, h => by show (if a = 0 then [] else [a]) = [a]; rw [if_neg h]
  | c :: r, a, h => by
    have ih := trim_snoc r h
    show (match trim (r ++ [a]) with | [] => if c = 0 then [] else [c] | b :: s => c :: b :: s) = c :: (r ++ [a])
    rw [ih]
    cases r <;> rfl
theorem snoc_of {r : List Int} (h : r ≠ []) : ∃ s a, r = s ++ [a] := ⟨r.dropLast, r.getLast h, (List.dropLast_concat_getLast h).symm⟩
theorem pol_snoc0 (r : List Int) (n : Int) : pol (r ++ [0]) n = pol r n := by
  unfold pol
  rw [pols_snoc, Int.zero_mul, Int.add_zero]
theorem pol_trim_aux : ∀ (k : Nat) (r : List Int), r.length = k → ∀ n, pol (trim r) n = pol r n
  | 0, r, h, n => by rw [List.length_eq_zero_iff.mp h]; rfl
  | k + 1, r, h, n => by
    obtain ⟨s, a, rfl⟩ := snoc_of (r := r) (fun z => by rw [z] at h; cases h)
    by_cases ha : a = 0
    · subst ha
      rw [trim_snoc0, pol_snoc0]
      exact pol_trim_aux k s (by rw [List.length_append] at h; exact Nat.succ.inj h) n
    · rw [trim_snoc s ha]
theorem pol_trim (r : List Int) (n : Int) : pol (trim r) n = pol r n := pol_trim_aux _ r rfl n
/-- no zero at the end -/
def Trm (r : List Int) : Prop := ∀ s a, r = s ++ [a] → a ≠ 0
theorem trim_trm : ∀ (k : Nat) (r : List Int), r.length = k → Trm (trim r)
  | 0, r, h => by
    rw [List.length_eq_zero_iff.mp h]
    intro s a e
    have e2 := congrArg List.length e
    rw [List.length_append] at e2
    exact absurd e2 (by show ¬ 0 = s.length + 1; omega)
  | k + 1, r, h => by
    obtain ⟨s, a, rfl⟩ := snoc_of (r := r) (fun z => by rw [z] at h; cases h)
    by_cases ha : a = 0
    · subst ha
      rw [trim_snoc0]
      exact trim_trm k s (by rw [List.length_append] at h; exact Nat.succ.inj h)
    · rw [trim_snoc s ha]
      intro s2 a2 e
      have := List.append_inj_right' e rfl
      have h3 : a = a2 := by injection this
      rw [← h3]; exact ha
theorem trm_trim {r : List Int} (h : Trm r) : trim r = r := by
  by_cases e : r = []
  · rw [e]; rfl
  · obtain ⟨s, a, rfl⟩ := snoc_of e
    exact trim_snoc s (h s a rfl)
/-! ### polynomials through values, products -/
def earls : Nat → List Int → List Int
  | 0, r => r
  | b + 1, r => earl (earls b r)
theorem earls_newt {m : Nat} {f : Int → Int} {b : Int} (h : ∀ n, Dk m f n = 0) : ∀ j : Nat, earls j (newt m f b) = newt m f (b - (j : Int))
  | 0 => by show newt m f b = newt m f (b - ((0 : Nat) : Int)); rw [show b - ((0 : Nat) : Int) = b by omega]
  | j + 1 => by
    show earl (earls j (newt m f b)) = _
    rw [earls_newt h j, earl_newt m f _ h, show b - (j : Int) - 1 = b - ((j + 1 : Nat) : Int) by omega]
def thru (b : Nat) (r : List Int) : List Int := trim (earls b (difs r.length r))
theorem thru_vals {m : Nat} {f : Int → Int} {b : Nat} (h : ∀ n, Dk m f n = 0) : thru b (vals m f (b : Int)) = trim (newt m f 0) := by
  unfold thru
  rw [vals_length, difs_vals, earls_newt h, show (b : Int) - (b : Int) = 0 by omega]
theorem pol_thru {m : Nat} {f : Int → Int} {b : Nat} (h : ∀ n, Dk m f n = 0) (n : Int) : pol (thru b (vals m f (b : Int))) n = f n := by
  rw [thru_vals h, pol_trim, newton m f h]
theorem thru_trm (b : Nat) (r : List Int) : Trm (thru b r) := trim_trm _ _ rfl
theorem Dk_ge : ∀ (k : Nat) {f : Int → Int} {N : Int}, (∀ n, N ≤ n → f n = 0) → ∀ n, N ≤ n → Dk k f n = 0
  | 0, _, _, h => h
  | k + 1, f, N, h => Dk_ge k fun n hn => by unfold D; rw [h _ (by omega), h _ hn]; rfl
/-- zero from somewhere on: zero -/
theorem zero_of_ge {m : Nat} {f : Int → Int} {N : Int} (hm : ∀ n, Dk m f n = 0) (h : ∀ n, N ≤ n → f n = 0) : ∀ n, f n = 0 := by
  have e : ∀ n, (fun x => f (x + N)) n = 0 := by
    intro n
    refine (newton m (fun x => f (x + N)) (fun n => by rw [Dk_shift]; exact hm _) n).symm.trans ?_
    have z : newt m (fun x => f (x + N)) 0 = List.replicate m 0 := by
      apply List.ext_getElem?
      intro i
      by_cases hi : i < m
      · rw [newt_get m _ _ i hi, Dk_shift, Dk_ge i h _ (by omega), List.getElem?_replicate_of_lt hi]
      · rw [List.getElem?_eq_none (by rw [newt_length]; omega), List.getElem?_eq_none (by rw [List.length_replicate]; omega)]
    rw [z]
    have : ∀ (m j : Nat), pols n j (List.replicate m 0) = 0 := by
      intro m
      induction m with
      | zero => intro j; rfl
      | succ m im => intro j; rw [List.replicate_succ]; show 0 * W n j + pols n (j + 1) (List.replicate m 0) = 0; rw [im]; omega
    exact this m 0
  intro n
  have := e (n - N)
  show f n = 0
  have h2 : f (n - N + N) = 0 := this
  rw [show n - N + N = n by omega] at h2
  exact h2
theorem pol_entry (r : List Int) (k : Nat) : Dk k (pol r) 0 = r.getD k 0 := by
  rw [Dk_pol, pol_zero, List.getD_eq_getElem?_getD]
  cases h : r[k]? with
  | none =>
    rw [List.drop_eq_nil_of_le (List.getElem?_eq_none_iff.mp h)]
    rfl
  | some a =>
    obtain ⟨hk, e⟩ := List.getElem?_eq_some_iff.mp h
    rw [List.drop_eq_getElem_cons hk, e]
    show ([a] : List Int).sum = a
    simp
theorem Trm.last {r : List Int} (h : Trm r) (hr : r ≠ []) : r.getD (r.length - 1) 0 ≠ 0 := by
  obtain ⟨s, a, rfl⟩ := snoc_of hr
  rw [List.getD_eq_getElem?_getD, List.length_append]
  show (s ++ [a])[s.length + 1 - 1]?.getD 0 ≠ 0
  rw [show s.length + 1 - 1 = s.length by omega, List.getElem?_append_right (Nat.le_refl _), Nat.sub_self]
  exact h s a rfl
theorem trm_len {r s : List Int} (hs : Trm s) (e : ∀ k, r.getD k 0 = s.getD k 0) : s.length ≤ r.length := by
  by_cases z : s = []
  · rw [z]; exact Nat.zero_le _
  · have h1 := hs.last z
    have h2 : 0 < s.length := List.length_pos_iff.mpr z
    rcases Nat.lt_or_ge r.length s.length with h | h
    · exfalso
      refine h1 ?_
      rw [← e, List.getD_eq_getElem?_getD, List.getElem?_eq_none (by omega)]
      rfl
    · exact h
theorem pol_inj {r s : List Int} (hr : Trm r) (hs : Trm s) (e : ∀ n, pol r n = pol s n) : r = s := by
  have e1 : pol r = pol s := funext e
  have e2 : ∀ k, r.getD k 0 = s.getD k 0 := fun k => by rw [← pol_entry, ← pol_entry, e1]
  have l1 := trm_len hs e2
  have l2 := trm_len hr fun k => (e2 k).symm
  apply List.ext_getElem (by omega)
  intro i h1 h2
  have := e2 i
  rw [List.getD_eq_getElem?_getD, List.getD_eq_getElem?_getD, List.getElem?_eq_getElem h1, List.getElem?_eq_getElem h2] at this
  exact this
/-- equal from somewhere on -/
theorem pol_inj_ge {r s : List Int} {N : Int} (hr : Trm r) (hs : Trm s) (e : ∀ n, N ≤ n → pol r n = pol s n) : r = s := by
  refine pol_inj hr hs fun n => ?_
  have h1 : ∀ n, Dk (max r.length s.length) (fun x => pol r x + (-1) * pol s x) n = 0 := fun n => by
    rw [Dk_add, Dk_mul, Dk_le (Nat.le_max_left _ _) (Dk_pol0 r), Dk_le (Nat.le_max_right _ _) (Dk_pol0 s)]
    rfl
  have h2 := zero_of_ge h1 (N := N) (fun n hn => by show pol r n + -1 * pol s n = 0; rw [e n hn]; omega) n
  have h3 : pol r n + -1 * pol s n = 0 := h2
  omega
def prodL (r s : List Int) : List Int := thru 0 (vals (r.length + s.length) (fun x => pol r x * pol s x) ((0 : Nat) : Int))
theorem prod_D (r s : List Int) : ∀ n, Dk (r.length + s.length) (fun x => pol r x * pol s x) n = 0 := Dk_le (Nat.sub_le _ 1) (Dk_prod (Dk_pol0 r) (Dk_pol0 s))
theorem pol_prod (r s : List Int) (n : Int) : pol (prodL r s) n = pol r n * pol s n := pol_thru (prod_D r s) n
theorem prod_trm (r s : List Int) : Trm (prodL r s) := thru_trm _ _
theorem prod_comm (r s : List Int) : prodL r s = prodL s r := pol_inj (prod_trm _ _) (prod_trm _ _) fun n => by rw [pol_prod, pol_prod, Int.mul_comm]
theorem trm_nil : Trm [] := fun s a e => by
  have := congrArg List.length e
  rw [List.length_append] at this
  exact absurd this (by show ¬ 0 = s.length + 1; omega)
theorem prod_nil {r s : List Int} (h : r = [] ∨ s = []) : prodL r s = [] := pol_inj (prod_trm _ _) trm_nil fun n => by
  rw [pol_prod]
  rcases h with rfl | rfl
  · show 0 * pol s n = 0; omega
  · show pol r n * 0 = 0; omega
theorem newt_snoc : ∀ (m : Nat) (f : Int → Int) (b : Int), newt (m + 1) f b = newt m f b ++ [Dk m f b]
  | 0, _, _ => rfl
  | m + 1, f, b => by
    show f b :: newt (m + 1) (D f) b = (f b :: newt m (D f) b) ++ [Dk m (D f) b]
    rw [newt_snoc m (D f) b]
    rfl
theorem prod_top {r s : List Int} (hr : Trm r) (hs : Trm s) (r0 : r ≠ []) (s0 : s ≠ []) : (prodL r s).length = r.length + s.length - 1 := by
  have lr : 0 < r.length := List.length_pos_iff.mpr r0
  have ls : 0 < s.length := List.length_pos_iff.mpr s0
  obtain ⟨a, ha⟩ : ∃ a, r.length = a + 1 := ⟨r.length - 1, by omega⟩
  obtain ⟨b, hb⟩ : ∃ b, s.length = b + 1 := ⟨s.length - 1, by omega⟩
  have cr : ∀ n, Dk a (pol r) n = r.getD a 0 := fun n => by
    have h1 : ∀ n, Dk (a + 1) (pol r) n = 0 := by rw [← ha]; exact Dk_pol0 r
    have h2 : ∀ n, Dk a (pol r) n = Dk a (pol r) 0 := by
      have e : Dk a (pol r) = pol (r.drop a) := Dk_pol a r
      have l : (r.drop a).length = 1 := by rw [List.length_drop]; omega
      obtain ⟨x, hx⟩ := List.length_eq_one_iff.mp l
      intro n
      rw [e, hx]
      show x * W n 0 + 0 = x * W 0 0 + 0
      rw [W_r, W_r]
    rw [h2, pol_entry]
  have cs : ∀ n, Dk b (pol s) n = s.getD b 0 := fun n => by
    have h2 : ∀ n, Dk b (pol s) n = Dk b (pol s) 0 := by
      have e : Dk b (pol s) = pol (s.drop b) := Dk_pol b s
      have l : (s.drop b).length = 1 := by rw [List.length_drop]; omega
      obtain ⟨x, hx⟩ := List.length_eq_one_iff.mp l
      intro n
      rw [e, hx]
      show x * W n 0 + 0 = x * W 0 0 + 0
      rw [W_r, W_r]
    rw [h2, pol_entry]
  obtain ⟨c, c1, hc⟩ := Dk_top (a + b) a b rfl
  have top := hc (pol r) (pol s) _ _ cr cs 0
  have nr := hr.last r0
  have ns := hs.last s0
  rw [ha, Nat.add_sub_cancel] at nr
  rw [hb, Nat.add_sub_cancel] at ns
  have nz : (c : Int) * (r.getD a 0 * s.getD b 0) ≠ 0 := Int.mul_ne_zero (by omega) (Int.mul_ne_zero nr ns)
  unfold prodL
  rw [thru_vals (prod_D r s), ha, hb, show a + 1 + (b + 1) = (a + b + 1) + 1 by omega, newt_snoc (a + b + 1)]
  have hz : Dk (a + b + 1) (fun x => pol r x * pol s x) 0 = 0 := by
    have := Dk_prod (a := a + 1) (b := b + 1) (f := pol r) (g := pol s) (by rw [← ha]; exact Dk_pol0 r) (by rw [← hb]; exact Dk_pol0 s) 0
    rw [show a + 1 + (b + 1) - 1 = a + b + 1 by omega] at this
    exact this
  rw [hz, trim_snoc0, newt_snoc (a + b), top, trim_snoc _ nz, List.length_append, newt_length]
  show a + b + 1 = a + b + 1 + 1 - 1
  omega
/-! ### how long the numbers may become -/
def Sz (B : Nat) (r : List Int) : Prop := ∀ a ∈ r, a.natAbs < 2 ^ B
theorem Sz.mono {B C : Nat} {r : List Int} (h : Sz B r) (hl : B ≤ C) : Sz C r := fun a ha => Nat.lt_of_lt_of_le (h a ha) (Nat.pow_le_pow_right (by decide) hl)
theorem pols_size {n : Int} {B b L : Nat} : ∀ (r : List Int) (j : Nat), Sz B r → j + r.length ≤ L → n.natAbs + L ≤ 2 ^ b → (pols n j r).natAbs ≤ r.length * 2 ^ (B + b * L)
  | [], _, _, _, _ => Nat.zero_le _
  | a :: r, j, h, hl, hn => by
    rw [List.length_cons] at hl
    have ih := pols_size (n := n) (B := B) (b := b) (L := L) r (j + 1) (fun x hx => h x (List.mem_cons_of_mem _ hx)) (by omega) hn
    have h1 := h a List.mem_cons_self
    have h2 : (W n j).natAbs ≤ 2 ^ (b * j) := W_size (by omega)
    have h3 : 2 ^ (b * j) ≤ 2 ^ (b * L) := Nat.pow_le_pow_right (by decide) (Nat.mul_le_mul_left _ (by omega))
    have h4 : (a * W n j).natAbs ≤ 2 ^ (B + b * L) := by
      rw [Int.natAbs_mul, Nat.pow_add]
      exact Nat.mul_le_mul (by omega) (by omega)
    show (a * W n j + pols n (j + 1) r).natAbs ≤ (r.length + 1) * 2 ^ (B + b * L)
    rw [Nat.add_mul, Nat.one_mul]
    have := Int.natAbs_add_le (a * W n j) (pols n (j + 1) r)
    omega
theorem pol_size {n : Int} {B b : Nat} {r : List Int} (h : Sz B r) (hn : n.natAbs + r.length ≤ 2 ^ b) : (pol r n).natAbs < 2 ^ (B + b * r.length + r.length) := by
  have h1 := pols_size (n := n) r 0 h (by omega) hn
  have h2 : r.length < 2 ^ r.length := Nat.lt_two_pow_self
  have h3 : 0 < 2 ^ (B + b * r.length) := Nat.pow_pos (by decide)
  have h4 : r.length * 2 ^ (B + b * r.length) < 2 ^ r.length * 2 ^ (B + b * r.length) := Nat.mul_lt_mul_of_pos_right h2 h3
  rw [Nat.add_comm (B + b * r.length), Nat.pow_add 2 r.length]
  show (pols n 0 r).natAbs < _
  omega
theorem nbr_size {B : Nat} {r : List Int} (h : Sz B r) : Sz (B + 1) (nbr r) := fun a ha => by
  unfold nbr at ha
  obtain ⟨i, hi, e⟩ := List.mem_iff_getElem.mp ha
  rw [List.getElem_zipWith] at e
  have h1 := h _ (List.getElem_mem (l := r) (n := i) (by rw [List.length_zipWith] at hi; omega))
  have h2 := h _ (List.mem_of_mem_drop (List.getElem_mem (l := r.drop 1) (n := i) (by rw [List.length_zipWith] at hi; omega)))
  rw [Nat.pow_succ]
  omega
theorem difs_size : ∀ (k : Nat) {B : Nat} {r : List Int}, Sz B r → Sz (B + k) (difs k r)
  | 0, _, _, _ => fun a ha => absurd ha List.not_mem_nil
  | k + 1, B, r, h => fun a ha => by
    rcases List.mem_append.mp ha with h1 | h1
    · exact (h.mono (by omega)) a (List.mem_of_mem_take h1)
    · have := difs_size k (nbr_size h) a h1
      rw [show B + 1 + k = B + (k + 1) by omega] at this
      exact this
theorem mem_trim : ∀ (k : Nat) (r : List Int), r.length = k → ∀ a ∈ trim r, a ∈ r
  | 0, r, h, a, ha => by rw [List.length_eq_zero_iff.mp h] at ha ⊢; exact ha
  | k + 1, r, h, a, ha => by
    obtain ⟨s, b, rfl⟩ := snoc_of (r := r) (fun z => by rw [z] at h; cases h)
    by_cases hb : b = 0
    · subst hb
      rw [trim_snoc0] at ha
      exact List.mem_append_left _ (mem_trim k s (by rw [List.length_append] at h; exact Nat.succ.inj h) a ha)
    · rw [trim_snoc s hb] at ha
      exact ha
theorem trim_size {B : Nat} {r : List Int} (h : Sz B r) : Sz B (trim r) := fun a ha => h a (mem_trim _ r rfl a ha)
theorem earl_size {B : Nat} : ∀ {r : List Int}, Sz B r → Sz (B + r.length) (earl r)
  | [], _ => fun a ha => absurd ha List.not_mem_nil
  | d :: r, h => by
    have ih := earl_size (B := B) (r := r) fun x hx => h x (List.mem_cons_of_mem _ hx)
    have hd : ((earl r).headD 0).natAbs < 2 ^ (B + r.length) := by
      cases e : earl r with
      | nil => exact Nat.pow_pos (by decide)
      | cons x y => exact ih x (by rw [e]; exact List.mem_cons_self)
    intro a ha
    rcases List.mem_cons.mp ha with rfl | ha
    · have h1 := h d List.mem_cons_self
      have h2 : 2 ^ B ≤ 2 ^ (B + r.length) := Nat.pow_le_pow_right (by decide) (by omega)
      show _ < 2 ^ (B + r.length + 1)
      rw [Nat.pow_succ]
      omega
    · exact Nat.lt_of_lt_of_le (ih a ha) (Nat.pow_le_pow_right (by decide) (by show B + r.length ≤ B + (r.length + 1); omega))
theorem earl_length : ∀ r : List Int, (earl r).length = r.length
  | [] => rfl
  | _ :: r => congrArg Nat.succ (earl_length r)
theorem earls_length : ∀ (b : Nat) (r : List Int), (earls b r).length = r.length
  | 0, _ => rfl
  | b + 1, r => (earl_length _).trans (earls_length b r)
theorem earls_size {B : Nat} {r : List Int} (h : Sz B r) : ∀ b : Nat, Sz (B + b * r.length) (earls b r)
  | 0 => by rw [Nat.zero_mul]; exact h
  | b + 1 => by
    have := earl_size (earls_size h b)
    rw [earls_length, show B + b * r.length + r.length = B + (b + 1) * r.length by rw [Nat.add_mul, Nat.one_mul]; omega] at this
    exact this
theorem difs_length : ∀ (k : Nat) (r : List Int), r.length = k → (difs k r).length = k
  | 0, _, _ => rfl
  | k + 1, r, h => by
    show (r.take 1 ++ difs k (nbr r)).length = k + 1
    rw [List.length_append, List.length_take, difs_length k (nbr r) (by rw [nbr_length]; omega)]
    omega
theorem trim_length : ∀ (r : List Int), (trim r).length ≤ r.length
  | [] => Nat.le_refl _
  | a :: r => by
    have ih := trim_length r
    show (match trim r with | [] => if a = 0 then [] else [a] | b :: s => a :: b :: s).length ≤ r.length + 1
    cases e : trim r with
    | nil => dsimp only; split <;> simp
    | cons b s => rw [e] at ih; dsimp only; simp only [List.length_cons] at ih ⊢; omega
theorem thru_length (b : Nat) (r : List Int) : (thru b r).length ≤ r.length := by
  have := trim_length (earls b (difs r.length r))
  rw [earls_length, difs_length _ r rfl] at this
  exact this
theorem thru_size {B b : Nat} {r : List Int} (h : Sz B r) : Sz (B + r.length + b * r.length) (thru b r) := by
  have h1 := earls_size (difs_size r.length h) b
  rw [difs_length _ r rfl] at h1
  exact trim_size h1
theorem vals_size {B m : Nat} {f : Int → Int} {b : Int} (h : ∀ i : Nat, i < m → (f (b + (i : Int))).natAbs < 2 ^ B) : Sz B (vals m f b) := fun a ha => by
  obtain ⟨i, hi, e⟩ := List.mem_map.mp ha
  rw [← e]
  exact h i (List.mem_range.mp hi)
/-- sizes of two factors -/
def POk (B : Nat) (r s : List Int) : Prop := Sz B r ∧ Sz B s ∧ 1 ≤ B ∧ B ≤ 200000 ∧ r.length ≤ 120 ∧ s.length ≤ 120
theorem POk.pols {B : Nat} {r s : List Int} (h : POk B r s) {n : Int} (hn : n.natAbs ≤ 300) : (pol r n).natAbs < 2 ^ (B + 1200) ∧ (pol s n).natAbs < 2 ^ (B + 1200) := by
  obtain ⟨h1, h2, h3, h4, h5, h6⟩ := h
  have a1 := pol_size (n := n) (b := 9) h1 (by show _ ≤ 512; omega)
  have a2 := pol_size (n := n) (b := 9) h2 (by show _ ≤ 512; omega)
  exact ⟨Nat.lt_of_lt_of_le a1 (Nat.pow_le_pow_right (by decide) (by omega)), Nat.lt_of_lt_of_le a2 (Nat.pow_le_pow_right (by decide) (by omega))⟩
theorem prod_length (r s : List Int) : (prodL r s).length ≤ r.length + s.length := by
  have := thru_length 0 (vals (r.length + s.length) (fun x => pol r x * pol s x) ((0 : Nat) : Int))
  rw [vals_length] at this
  exact this
theorem prod_size {B : Nat} {r s : List Int} (h : POk B r s) : Sz (2 * B + 2640) (prodL r s) := by
  have h0 := h
  obtain ⟨h1, h2, h3, h4, h5, h6⟩ := h
  have hv : Sz (2 * B + 2400) (vals (r.length + s.length) (fun x => pol r x * pol s x) ((0 : Nat) : Int)) := vals_size fun i hi => by
    obtain ⟨a1, a2⟩ := h0.pols (n := ((0 : Nat) : Int) + (i : Int)) (by omega)
    show (pol r _ * pol s _).natAbs < _
    rw [Int.natAbs_mul, show 2 * B + 2400 = (B + 1200) + (B + 1200) by omega, Nat.pow_add]
    exact Nat.mul_lt_mul'' a1 a2
  have := thru_size (b := 0) hv
  rw [vals_length] at this
  exact this.mono (by omega)
end K74
namespace K74
open PySem PySem.Spec PyProof.Rows L2
theorem same_upd {H : Hp} {p : Addr} {o : HO} (h : H p = none) : Same H (upd H p o) := fun b x e => by
  rw [upd_ne (ne_of_none e h)]
  exact e
theorem Same.tup {K : PySem.W.Frag} {H H' : Hp} {a : Addr} {xs : List V} (e : Same H H') (h : SqT K H a xs) : SqT K H' a xs := by
  rcases h with (h | ⟨o, h⟩) | h
  · exact .inl (.inl (e _ _ h))
  · exact .inl (.inr ⟨o, e _ _ h⟩)
  · exact .inr h
theorem ixN_nat {n j : Nat} (hj : j < n) : ixN n (j : Int) = some j := by
  unfold ixN
  rw [if_pos (by omega), if_pos (by omega), Int.toNat_natCast]
theorem iteD {c A B : Prop} [Decidable c] (hc : c) (h : A) : if decide c = true then A else B := by
  rw [decide_eq_true hc]
  exact iteT h
theorem iteND {c A B : Prop} [Decidable c] (hc : ¬ c) (h : B) : if decide c = true then A else B := by
  rw [decide_eq_false hc]
  exact iteF h
theorem iteB {b : Bool} {A B : Prop} (hb : b = true) (h : A) : if b = true then A else B := by
  rw [hb]
  exact iteT h
theorem iteNB {b : Bool} {A B : Prop} (hb : b = false) (h : B) : if b = true then A else B := by
  rw [hb]
  exact iteF h
theorem for_enum {K : PySem.W.Frag} {a : Addr} {xs : List V} {g : TG} {tb : TS} {D : Ends} {σ : L2.St} {H : Hp} (Pv : Nat → L2.St → Hp → Prop) (h0 : Pv 0 σ H) (hl : ∀ i σ H, i ≤ xs.length → Pv i σ H → SqL K H a xs)
    (hs : ∀ i x σ H T, xs[i]? = some x → Pv i σ H → H T = none → g (.ref T) σ (upd H T (.tup [.int (i : Nat), x])) fun σ2 H2 => tb { D with nx := Pv (i + 1), ct := Pv (i + 1), bk := D.nx } σ2 H2) (hd : ∀ σ H, Pv xs.length σ H → D.nx σ H) :
    ∃ W : Nat → Nat → L2.St → Hp → Prop, (∃ m, W 0 m σ H) ∧ ∀ i m σ H, W i m σ H →
      ((Ite K a).stop i H ∧ D.nx σ H) ∨ ((Ite K a).go i H ∧ ∃ N : L2.St → Hp → Prop, (∀ σ' H', N σ' H' → ∃ m', m' < m ∧ W (i + 1) m' σ' H') ∧ ∀ x H', (Ite K a).yld i H x H' → g x σ H' fun σ2 H2 => tb { D with nx := N, ct := N, bk := D.nx } σ2 H2) := by
  refine ⟨fun i m σ H => m = xs.length - i ∧ i ≤ xs.length ∧ Pv i σ H, ⟨_, rfl, Nat.zero_le _, h0⟩, ?_⟩
  rintro i m σ H ⟨rfl, hi, p⟩
  have q := hl i σ H hi p
  by_cases hlt : i < xs.length
  · refine .inr ⟨⟨xs, xs[i], q, List.getElem?_eq_getElem hlt⟩, Pv (i + 1), fun σ' H' p' => ⟨xs.length - (i + 1), by omega, rfl, hlt, p'⟩, fun v H' y => ?_⟩
    obtain ⟨T, x, e1, hT, e2, hx⟩ := y
    subst e1 e2
    exact hs i x σ H T (hx xs q) p hT
  · have e : i = xs.length := by omega
    subst e
    exact .inl ⟨⟨xs, q, Nat.le_refl _⟩, hd σ H p⟩
theorem cut_take (xs : List V) (i : Nat) : cutV xs none (some (i : Int)) = xs.take i := by
  unfold cutV
  rw [HT.sIx_none, show HT.sIx xs.length xs.length (some (i : Int)) = min i xs.length from HT.sIx_nat _ _ i, List.drop_zero, Nat.sub_zero]
  by_cases h : i ≤ xs.length
  · rw [Nat.min_eq_left h]
  · rw [Nat.min_eq_right (by omega), List.take_of_length_le (Nat.le_refl _), List.take_of_length_le (by omega)]
theorem cut_drop (xs : List V) (i : Nat) : cutV xs (some (i : Int)) none = xs.drop i := by
  unfold cutV
  rw [HT.sIx_none, show HT.sIx xs.length 0 (some (i : Int)) = min i xs.length from HT.sIx_nat _ _ i]
  by_cases h : i ≤ xs.length
  · rw [Nat.min_eq_left h]
    exact List.take_of_length_le (by rw [List.length_drop]; exact Nat.le_refl _)
  · rw [Nat.min_eq_right (by omega), Nat.sub_self, List.take_zero, List.drop_eq_nil_of_le (by omega)]
/-! ### range(n) as a value, and walked -/
theorem cr_range1 {X : Cx} : CallR X (.type "range") (fun vs H Q => ∃ j, vs = [V.int j] ∧ ∀ p, H p = none → Q (.ref p) (upd H p (.rng 0 j))) := by
  intro pins s σ H vs us Q I r h
  obtain ⟨j, rfl, q⟩ := h
  obtain ⟨u1, rfl, rj⟩ := vals1 r
  obtain ⟨t, rfl⟩ := rj
  refine call_range_1 ⟨.ref s.heap.objs.size, upd H s.heap.objs.size (.rng 0 j), I.laid (t' := s.toks + 1 + 1) (fun b o e => Heap.get?_push_of_some _ e) (Nat.le_refl _) ?_, rfl, q _ (I.hok.fresh (Nat.le_refl _))⟩
  exact ⟨_, _, _, Heap.get?_push_size _ rfl⟩
def iRngV (tl : TE) : TI := fun σ H R => tl σ H fun x H1 => ∃ (a : Addr) (lo hi : Int), x = .ref a ∧ H1 a = some (.rng lo hi) ∧ (-(2 ^ 62) ≤ lo ∧ lo < 2 ^ 62 ∧ -(2 ^ 62) ≤ hi ∧ hi < 2 ^ 62) ∧ R (Itr lo (hi - lo).toNat) H1
theorem pi_rngV {X : Cx} {tg : Expr} {l : Expr} {tl : TE} (hl : PE X l tl) : PI X tg l (iRngV tl) := by
  refine ⟨fun pins s σ H R I h => ?_⟩
  refine thn (hl.run pins s σ H _ I h) fun v s1 ⟨x, H1, I1, r1, q1⟩ => ?_
  obtain ⟨a, lo, hi, e, hr, ⟨h1, h2, h3, h4⟩, q⟩ := q1
  subst e
  cases r1
  obtain ⟨t, u, w, ho⟩ := I1.hok a _ hr
  refine wpAny_pyIter_range (show IsRange s1.heap a lo hi 1 t u w from ho) (small_one h1 h2 h3 h4) ?_
  refine ⟨s1.heap.objs.size, [s1.heap.objs.size], _, _, H1, rfl, I1.kept (t' := s1.toks) fun b o e => Heap.get?_push_of_some _ e, turn_range _ lo (hi - lo).toNat, ?_, fun b hb => ?_, q⟩
  · have e1 : lo + ((0 : Nat) : Int) * 1 = lo := by simp
    have e2 : (((hi - lo).toNat : Nat) : Int) - ((0 : Nat) : Int) = Builtin.Range.rangeSize lo hi 1 := by rw [rangeSize_one]; split <;> omega
    show IsRangeIter _ _ (lo + ((0 : Nat) : Int) * 1) ((((hi - lo).toNat : Nat) : Int) - ((0 : Nat) : Int)) 1
    rw [e1, e2]
    exact Heap.get?_push_size _ rfl
  · have e : b = s1.heap.objs.size := by simpa using hb
    subst e
    exact I1.fpOk (Nat.le_refl _) (I1.hok.fresh (Nat.le_refl _))
/-- a tuple as a comprehension's target -/
theorem pg_tupK {X : Cx} {K : PySem.W.Frag} (hK : X.K = K) {es : List Expr} {k : Nat} {pos : Pos} {t : TGs} {n : Nat} (hc : X.calm = true) (h : PGs X es t)
    (hn : (assignEach es X.env).length = n := by rfl) (hst : (assignEach es X.env).findIdx? (·.1) = none := by rfl) : PG X (.Tuple es k pos) (gTup K n t) := by
  subst hK
  exact pg_tup hc h hn hst
/-! ### errors with one value: made, raised, passed on -/
theorem passE {X : Cx} {E : XK} (tk : Takes X (fun cls d _ H => E cls d H)) : Passes (L2.CX X.prog X.w) X E := fun pins σ H s e s' I c => passes_call tk (fun _ _ _ _ h => h) pins σ H s e s' I c
def sp_einit (K : PySem.W.Frag) : Sp := fun vs H Q _ => ∃ (a C : Addr) (y : V), vs = [.ref a, y] ∧ OexC K C ∧ PySem.W.findIn K (.ref C) "value" = some none ∧ H a = some (exo a C none) ∧ ∀ dx, H dx = none → dx ≠ a → Q .non (upd (upd H dx (exd dx [(("value" : Str), y)])) a (exo a C (some dx)))
theorem raised {K : PySem.W.Frag} {C : Addr} {y : V} {H : Hp} {W : Value → Option Addr → Hp → Prop} (ox : OexC K C) (nv : PySem.W.findIn K (.ref C) "value" = some none) (k : ∀ d H', H d = none → Same H H' → H' d = some (.xd [(("value" : Str), y)]) → W (.ref C) (some d) H') :
    ∀ a, H a = none → sp_einit K (.ref a :: ([y] ++ [])) (upd H a (exo a C none)) (fun v H2 => v = .non ∧ ∃ (d : Addr) (fs : List (Str × V)), H2 a = some (exo a C (some d)) ∧ H2 d = some (exd d fs) ∧ H d = none ∧ W (.ref C) (some d) (upd (del H2 a) d (.xd fs))) (fun _ _ _ => False) := by
  intro a ha
  refine ⟨a, C, y, rfl, ox, nv, upd_same, fun dx hdx ne => ⟨rfl, dx, _, upd_same, by rw [upd_ne ne, upd_same], ?_, ?_⟩⟩
  · rw [upd_ne ne] at hdx
    exact hdx
  · rw [upd_ne ne] at hdx
    refine k dx _ hdx (fun b o e => ?_) upd_same
    have n1 := ne_of_none e hdx
    have n2 := ne_of_none e ha
    rw [upd_ne n1, del_ne n2, upd_ne n2, upd_ne n1, upd_ne n2]
    exact e
/-! ### calls whose errors a try around takes, at the slots -/
section
variable {X : Cx} {CX : CXT} {k : Nat} {f C : Addr} {fd : FuncData} {ps : List Str} {sp : Sp} {E : L2.St → XK} {m : Str} {pos apos : Pos} {e o : Expr} {es : List Expr} {ta tb : TE} {t : TA}
def tMethS (C : Addr) (m : Str) (sp : Sp) (E : L2.St → XK) (ta : TE) (t : TA) : TE := fun σ H Q => ta σ H fun x H1 => ∃ (a dx : Addr) (fs : List (Str × V)), x = .ref a ∧ H1 a = some (.ins C dx fs) ∧ fs.lookup m = none ∧ t σ H1 fun vs H2 => sp (.ref a :: vs) H2 Q (E σ)
theorem pe_methS {pl : Sem Bool} (he : PE X o ta) (c : Cls X.K C) (hm : Meth X.K C m f) (F : FnOk X.prog X.w X.K X.mg X.base CX k f fd ps sp) (hr : Room k X.A) (hb : Binds X.K fd ps []) (hx : ∀ σ, PassesAt CX X σ (E σ)) (ha : PA X (e :: es) t)
    (hst : starEach (e :: es) X.env = (false, eval e X.env) :: starEach es X.env := by rfl) (hpl : (backTo pos (starEach es X.env)).any (·.1) = false := by rfl)
    (ht : eval (.Call (.Attribute o m apos) (e :: es) [] pos) X.env = (do
      let ov ← eval o X.env
      standAt apos.atName
      let (f, first) ← holding [ov] (getMethod ov m pl)
      callWith pos f first (backTo pos (starEach (e :: es) X.env)) (backToKw pos (keywordEach [] X.env))) := by rfl) :
    PE X (.Call (.Attribute o m apos) (e :: es) [] pos) (tMethS C m sp E ta t) := by
  refine ⟨fun pins s σ H Q I h => ?_⟩
  refine PySem.W.methodCall_KW (pl := pl) (thn (he.run pins s σ H _ I h) fun u s1 ⟨x, H1, I1, rx, a, dx, fs, ex, ea, l, q⟩ => ?_) ht
  subst ex
  obtain rfl : u = Value.ref a := rx
  refine getmeth_ok I1 ea c hm l ?_
  refine PySem.W.callWith_K (first := [.ref a]) (h₀ := X.base) I.ok.mod.kin hm.kp (thn (ha.run pos pins s1 σ H1 _ I1 q) fun us s2 ⟨vs, H2, I2, r, q2⟩ => ⟨I2.kIn, ?_⟩) hst hpl
  exact run_fnS (us := .ref a :: us) (vs := .ref a :: vs) F hr hb (hx σ) I2 (.cons rfl r) q2
theorem run_fnNS {n : Nat} {ks : List Str} {g : List Value → List Value → List Value} {gV : List V → List V → List V} {pins : List (Addr × Obj)} {σ : L2.St} {H : Hp} {s : Shared} {Q : VK} {us ws : List Value} {vs zs : List V} (F : FnOk X.prog X.w X.K X.mg X.base CX k f fd ps sp) (hr : Room k X.A) (hb : KBn X.K fd ps n ks g gV) (hx : PassesAt CX X σ (E σ))
    (I : Inv X pins σ H s) (r : Vals vs us) (rz : Vals zs ws) (l1 : vs.length = n) (l2 : zs.length = ks.length) (h : sp (gV vs zs) H Q (E σ)) : wpAny (model X.prog X.w) X.A (call (.ref f) us (ks.zip ws)) (EP X pins σ Q) X.xe s := by
  have r2 := hb.rel r rz
  refine wpAny_call (codeAny_mono (F.run X.A X.stack s H ⟨us, ks.zip ws⟩ (g us ws) (gV vs zs) Q (E σ) hr I.env0 (hb.to s us ws I.kIn (r.length.symm.trans l1) (rz.length.symm.trans l2)) r2 h) fun r s' hq => ?_)
  cases r with
  | error e => exact hx pins H s e s' I hq
  | ok fl =>
    cases fl with
    | ret u => exact I.after hq
    | next => exact False.elim hq
    | brk => exact False.elim hq
    | cont => exact False.elim hq
def tMethNS (C : Addr) (m : Str) (n : Nat) (sp : Sp) (gV : List V → List V → List V) (E : L2.St → XK) (ta : TE) (tk : TA) : TE := fun σ H Q => ta σ H fun x H1 => ∃ (a dx : Addr) (fs : List (Str × V)), x = .ref a ∧ H1 a = some (.ins C dx fs) ∧ fs.lookup m = none ∧ tk σ H1 fun zs H2 => zs.length = n ∧ sp (gV [.ref a] zs) H2 Q (E σ)
theorem pe_methNS {ks : List Str} {kws : List Keyword} {tk : TA} {g : List Value → List Value → List Value} {gV : List V → List V → List V} {pl : Sem Bool}
    (he : PE X o ta) (c : Cls X.K C) (hm : Meth X.K C m f) (F : FnOk X.prog X.w X.K X.mg X.base CX k f fd ps sp) (hr : Room k X.A) (hb : KBn X.K fd ps 1 ks g gV) (hx : ∀ σ, PassesAt CX X σ (E σ)) (hkw : PK X kws tk)
    (h1 : (backToKw pos (keywordEach kws X.env)).all (·.1.isSome) = true := by rfl) (h2 : (backToKw pos (keywordEach kws X.env)).filterMap (·.1) = ks := by rfl)
    (h4 : ((backTo pos (starEach [] X.env)).any (·.1) || (backToKw pos (keywordEach kws X.env)).any (·.1.isNone)) = false := by rfl)
    (ht : eval (.Call (.Attribute o m apos) [] kws pos) X.env = (do let ov ← eval o X.env; standAt apos.atName; let (f, first) ← holding [ov] (getMethod ov m pl); callWith pos f first (backTo pos (starEach [] X.env)) (backToKw pos (keywordEach kws X.env))) := by rfl) :
    PE X (.Call (.Attribute o m apos) [] kws pos) (tMethNS C m ks.length sp gV E ta tk) := by
  refine ⟨fun pins s σ H Q I h => PySem.W.methodCall_KW (pl := pl) (thn (he.run pins s σ H _ I h) fun u s1 ⟨x, H1, I1, rx, a, dx, fs, ex, ea, l, q⟩ => ?_) ht⟩
  subst ex
  obtain rfl : u = Value.ref a := rx
  refine getmeth_ok I1 ea c hm l (PySem.W.callWith_KW0 (first := [.ref a]) (h₀ := X.base) I.ok.mod.kin hm.kp h1 (thn (hkw.run pos pins s1 σ H1 _ I1 q) fun ws s2 ⟨zs, H2, I2, rz, l2, q2⟩ => ⟨I2.kIn, ?_⟩) h4)
  rw [h2]
  exact run_fnNS (us := [.ref a]) (vs := [.ref a]) F hr hb (hx σ) I2 (.cons rfl .nil) rz rfl l2 q2
/-- o[i], o of an own class with its own __getitem__ -/
def tIxOwn (C : Addr) (sp : Sp) (E : L2.St → XK) (ta tb : TE) : TE := fun σ H Q => ta σ H fun x H1 => tb σ H1 fun y H2 => ∃ (a dx : Addr) (fs : List (Str × V)), x = .ref a ∧ H2 a = some (.ins C dx fs) ∧ sp [.ref a, y] H2 Q (E σ)
theorem pe_ixOwn (m : Meth X.K C "__getitem__" f) (hfn : PySem.W.fnIn X.K f = true) (F : FnOk X.prog X.w X.K X.mg X.base CX k f fd ps sp) (hr : Room (k + 1) X.A) (hb : Binds X.K fd ps []) (hx : ∀ σ, PassesAt CX X σ (E σ)) (ha : PE X o ta) (hbe : PE X e tb)
    (hsl : ∀ x i, subscripted e true (.ref x) i = runValue (.builtin "lifetime.subscript" ⟨[.ref x, i], []⟩) := by intro _ _; rfl) : PE X (.Subscript o e pos) (tIxOwn C sp E ta tb) := by
  refine ⟨fun pins s σ H Q I h => ?_⟩
  refine Subscript_ (thn (ha.run pins s σ H _ I h) fun v s1 ⟨x, H1, I1, r1, q1⟩ => thn (hbe.run pins s1 σ H1 _ I1 q1) fun u s2 ⟨y, H2, I2, r2, a, dx, fs, ex, ea, q2⟩ => ?_)
  subst ex
  obtain rfl : v = Value.ref a := r1
  obtain ⟨mA, O, _⟩ := ins_get I2.hok ea
  obtain ⟨od, J, _⟩ := O.look
  obtain ⟨m', hF⟩ := I2.fr
  have hl : ([Value.ref a, u] ++ ([] : List Value)).length = ps.length := by
    rw [← F.len _ _ _ _ q2]
    rfl
  refine PySem.W.sub_K hF I.ok.mod.kin J m.at_ hfn m.fn ?_ (hsl _ _)
  refine wpAny_call (codeAny_mono (F.run X.A.in1 X.stack s2 H2 ⟨[.ref a, u], []⟩ [.ref a, u] [.ref a, y] _ (E σ) hr.in1 I2.env0.in1 (hb s2 [.ref a, u] I2.kIn hl) (.cons rfl (.cons r2 .nil)) q2) fun r s' hq => ?_)
  cases r with
  | error er => exact hx σ pins H2 s2 er s' I2 hq
  | ok fl =>
    cases fl with
    | ret w => exact I2.after hq
    | next => exact False.elim hq
    | brk => exact False.elim hq
    | cont => exact False.elim hq
end
/-- outside of a try nothing is let out: the promise must say so -/
theorem passLS {X : Cx} (σ : L2.St) : PassesAt (L2.CX X.prog X.w) X σ E0 := fun pins H s e s' I c => passL pins σ H s e s' I c
theorem pass0S {X : Cx} {E : XK} (σ : L2.St) : PassesAt CX0 X σ E := fun _ _ _ _ _ _ c => c.elim
theorem passES {X : Cx} {E : XK} (tk : Takes X (fun cls d _ H => E cls d H)) (σ : L2.St) : PassesAt (L2.CX X.prog X.w) X σ E := fun pins H s e s' I c => passE tk pins σ H s e s' I c
/-! ### == and != of an instance of a class with its own __eq__ and a value of another kind, in both orders -/
section
open PySem.W
theorem int_eq_ins (b : Int) (u : Tok) (l C dx : Addr) :
    Meets (Builtin.«int.__eq__» ⟨[.int b u, .ref l], []⟩) (fun _ R s => s.heap.get? l = some (instObj C dx) ∧ R (.ok (.ret .notImplemented)) s) :=
  .of_wp fun prog w A R s h => by obtain ⟨hp, g, d, tk, os⟩ := s; obtain ⟨hl, h⟩ := h; wp_walk using wpAny_loadPart' hl, wpAny_load hl; exact ⟨_, rfl, h⟩
theorem int_ne_ins (b : Int) (u : Tok) (l C dx : Addr) :
    Meets (Builtin.«int.__ne__» ⟨[.int b u, .ref l], []⟩) (fun _ R s => s.heap.get? l = some (instObj C dx) ∧ R (.ok (.ret .notImplemented)) s) :=
  .of_wp fun prog w A R s h => by obtain ⟨hp, g, d, tk, os⟩ := s; obtain ⟨hl, h⟩ := h; wp_walk using wpAny_loadPart' hl, wpAny_load hl; exact ⟨_, rfl, h⟩
theorem str_eq_ins (b : Str) (u : Tok) (l C dx : Addr) :
    Meets (Builtin.«str.__eq__» ⟨[.str b u, .ref l], []⟩) (fun _ R s => s.heap.get? l = some (instObj C dx) ∧ R (.ok (.ret .notImplemented)) s) :=
  .of_wp fun prog w A R s h => by obtain ⟨hp, g, d, tk, os⟩ := s; obtain ⟨hl, h⟩ := h; wp_walk using wpAny_loadPart' hl, wpAny_load hl; exact ⟨_, rfl, h⟩
theorem str_ne_ins (b : Str) (u : Tok) (l C dx : Addr) :
    Meets (Builtin.«str.__ne__» ⟨[.str b u, .ref l], []⟩) (fun _ R s => s.heap.get? l = some (instObj C dx) ∧ R (.ok (.ret .notImplemented)) s) :=
  .of_wp fun prog w A R s h => by obtain ⟨hp, g, d, tk, os⟩ := s; obtain ⟨hl, h⟩ := h; wp_walk using wpAny_loadPart' hl, wpAny_load hl; exact ⟨_, rfl, h⟩
theorem none_eq_ins (l : Addr) : Gives (Builtin.«NoneType.__eq__» ⟨[.none, .ref l], []⟩) (.val (Value.notImplemented)) :=
  .of_wp fun M A E s Q h => by obtain ⟨hp, g, d, tk, os⟩ := s; wp_walk; exact ⟨_, rfl, h⟩
theorem none_ne_ins (l : Addr) : Gives (Builtin.«NoneType.__ne__» ⟨[.none, .ref l], []⟩) (.val (Value.notImplemented)) :=
  .of_wp fun M A E s Q h => by obtain ⟨hp, g, d, tk, os⟩ := s; wp_walk; exact ⟨_, rfl, h⟩
def NotOf (x : Addr) (n : String) (s : Shared) : Prop := ∀ (M : Model) (A : Around) (Q : Bool → Shared → Prop) (E : Value → Shared → Prop), Q false s → wpAny M A (isInstance (.ref x) (.type n)) Q E s
theorem list_eq_ins (l x : Addr) : Meets (Builtin.«list.__eq__» ⟨[.ref l, .ref x], []⟩) (fun _ R s => NotOf x "list" s ∧ R (.ok (.ret .notImplemented)) s) :=
  .of_wp fun prog w A R s h => by obtain ⟨hp, g, d, tk, os⟩ := s; obtain ⟨f1, h⟩ := h; unfold NotOf at f1; wp_walk using f1; exact ⟨_, rfl, h⟩
theorem list_ne_ins (l x : Addr) : Meets (Builtin.«list.__ne__» ⟨[.ref l, .ref x], []⟩) (fun _ R s => NotOf x "list" s ∧ R (.ok (.ret .notImplemented)) s) :=
  .of_wp fun prog w A R s h => by obtain ⟨hp, g, d, tk, os⟩ := s; obtain ⟨f1, h⟩ := h; unfold NotOf at f1; wp_walk using f1; exact ⟨_, rfl, h⟩
theorem tuple_eq_ins (l x : Addr) : Meets (Builtin.«tuple.__eq__» ⟨[.ref l, .ref x], []⟩) (fun _ R s => NotOf x "tuple" s ∧ R (.ok (.ret .notImplemented)) s) :=
  .of_wp fun prog w A R s h => by obtain ⟨hp, g, d, tk, os⟩ := s; obtain ⟨f1, h⟩ := h; unfold NotOf at f1; wp_walk using f1; exact ⟨_, rfl, h⟩
theorem tuple_ne_ins (l x : Addr) : Meets (Builtin.«tuple.__ne__» ⟨[.ref l, .ref x], []⟩) (fun _ R s => NotOf x "tuple" s ∧ R (.ok (.ret .notImplemented)) s) :=
  .of_wp fun prog w A R s h => by obtain ⟨hp, g, d, tk, os⟩ := s; obtain ⟨f1, h⟩ := h; unfold NotOf at f1; wp_walk using f1; exact ⟨_, rfl, h⟩
/-- None, a number, a string, a list or a tuple -/
def Kind (H : Hp) (z : V) : Prop := z = .non ∨ (∃ i, z = .int i) ∨ (∃ t, z = .str t) ∨ (∃ a xs, z = .ref a ∧ H a = some (.lst xs)) ∨ (∃ a xs, z = .ref a ∧ H a = some (.tup xs))
/-- u, of the type T, declines x -/
structure Decl (s : Shared) (K : Frag) (C : Addr) (x : Addr) (u : Value) (T : String) : Prop where
  ty : s.TypeIs u T
  sub : subIn K (.type T) (.ref C) = some false
  mro : mroIn K C (.type T) = some false
  eq : ∀ (prog : Program) (w : World) (A : Around) (Q : Option Value → Shared → Prop) (E : Value → Shared → Prop), Q none s → wpAny (model prog w) A (tryCompare u "__eq__" (.ref x)) Q E s
  ne : ∀ (prog : Program) (w : World) (A : Around) (Q : Option Value → Shared → Prop) (E : Value → Shared → Prop), Q none s → wpAny (model prog w) A (tryCompare u "__ne__" (.ref x)) Q E s
theorem sub_builtin {K : Frag} {C : Addr} {n : String} {ms : List String} (e : fastBuiltinMro n = some (ms.map Value.type)) : subIn K (.type n) (.ref C) = some false := by
  show (fastBuiltinMro n).map (·.contains (.ref C)) = some false
  rw [e]
  show some ((ms.map Value.type).contains (.ref C)) = some false
  congr 1
  induction ms with
  | nil => rfl
  | cons m ms ih =>
    show (Value.ref C == Value.type m || (ms.map Value.type).contains (.ref C)) = false
    rw [Bool.or_eq_false_iff]
    refine ⟨by simp, ?_⟩
    simp
/-- the class is no subclass of these -/
structure Apart (K : Frag) (C : Addr) : Prop where
  non : mroIn K C (.type "NoneType") = some false
  int : mroIn K C (.type "int") = some false
  str : mroIn K C (.type "str") = some false
  lst : mroIn K C (.type "list") = some false
  tup : mroIn K C (.type "tuple") = some false
theorem notOf {K : Frag} {C x dx : Addr} {s : Shared} {n : String} (X : K.In s.heap) (hx : s.heap.get? x = some (instObj C dx)) (hm : mroIn K C (.type n) = some false) : NotOf x n s := fun M A Q E q => by
  unfold isInstance
  refine wpAny_bind (wpAny_typeOf_ref hx ?_)
  exact (looks_mroIn X hm).here q
theorem kind_decl {P : Program} {w : World} {H : Hp} {s : Shared} {K : Frag} {C x dx : Addr} {z : V} {u : Value} (hok : HOk P w H s.heap) (X : K.In s.heap) (hx : s.heap.get? x = some (instObj C dx)) (ap : Apart K C) (hz : Kind H z) (r : RelV z u) : ∃ T, Decl s K C x u T := by
  rcases hz with rfl | ⟨i, rfl⟩ | ⟨t, rfl⟩ | ⟨a, xs, rfl, e⟩ | ⟨a, xs, rfl, e⟩
  · obtain rfl : u = Value.none := r
    exact ⟨"NoneType", rfl, sub_builtin (ms := ["NoneType", "object"]) (by decide +kernel), ap.non,
      fun prog w A Q E q => wpAny_tryCompare_declines (show s.TypeIs .none "NoneType" from rfl) F.slot_NoneType_eq (call_gives F.slot_NoneType_eq rfl F.entry_NoneType_eq (F.args_NoneType_eq_2 _ _) (none_eq_ins x) ⟨rfl, q⟩),
      fun prog w A Q E q => wpAny_tryCompare_declines (show s.TypeIs .none "NoneType" from rfl) F.slot_NoneType_ne (call_gives F.slot_NoneType_ne rfl F.entry_NoneType_ne (F.args_NoneType_ne_2 _ _) (none_ne_ins x) ⟨rfl, q⟩)⟩
  · obtain ⟨t, rfl⟩ := r
    exact ⟨"int", rfl, sub_builtin (ms := ["int", "object"]) (by decide +kernel), ap.int,
      fun prog w A Q E q => wpAny_tryCompare_declines (show s.TypeIs (.int i t) "int" from rfl) F.slot_int_eq (call_meets F.slot_int_eq rfl F.entry_int_eq (F.args_int_eq_2 _ _) (int_eq_ins i t x C dx) ⟨hx, rfl, q⟩),
      fun prog w A Q E q => wpAny_tryCompare_declines (show s.TypeIs (.int i t) "int" from rfl) F.slot_int_ne (call_meets F.slot_int_ne rfl F.entry_int_ne (F.args_int_ne_2 _ _) (int_ne_ins i t x C dx) ⟨hx, rfl, q⟩)⟩
  · obtain ⟨k, rfl⟩ := r
    exact ⟨"str", rfl, sub_builtin (ms := ["str", "object"]) (by decide +kernel), ap.str,
      fun prog w A Q E q => wpAny_tryCompare_declines (show s.TypeIs (.str t k) "str" from rfl) F.slot_str_eq (call_meets F.slot_str_eq rfl F.entry_str_eq (F.args_str_eq_2 _ _) (str_eq_ins t k x C dx) ⟨hx, rfl, q⟩),
      fun prog w A Q E q => wpAny_tryCompare_declines (show s.TypeIs (.str t k) "str" from rfl) F.slot_str_ne (call_meets F.slot_str_ne rfl F.entry_str_ne (F.args_str_ne_2 _ _) (str_ne_ins t k x C dx) ⟨hx, rfl, q⟩)⟩
  · obtain rfl : u = Value.ref a := r
    obtain ⟨_, its, n, _, ho⟩ := (show ObjOk P w H s.heap a (.lst xs) from hok a _ e)
    exact ⟨"list", ⟨_, ho, rfl⟩, sub_builtin (ms := ["list", "object"]) (by decide +kernel), ap.lst,
      fun prog w A Q E q => wpAny_tryCompare_declines (show s.TypeIs (.ref a) "list" from ⟨_, ho, rfl⟩) F.slot_list_eq (call_meets F.slot_list_eq ⟨_, ho, rfl⟩ F.entry_list_eq (F.args_list_eq_2 _ _) (list_eq_ins a x) ⟨notOf X hx ap.lst, rfl, q⟩),
      fun prog w A Q E q => wpAny_tryCompare_declines (show s.TypeIs (.ref a) "list" from ⟨_, ho, rfl⟩) F.slot_list_ne (call_meets F.slot_list_ne ⟨_, ho, rfl⟩ F.entry_list_ne (F.args_list_ne_2 _ _) (list_ne_ins a x) ⟨notOf X hx ap.lst, rfl, q⟩)⟩
  · obtain rfl : u = Value.ref a := r
    obtain ⟨_, its, _, ho⟩ := (show ObjOk P w H s.heap a (.tup xs) from hok a _ e)
    have ht : s.TypeIs (.ref a) "tuple" := by
      obtain ⟨o, h1, h2, _⟩ := ho
      exact ⟨o, h1, h2⟩
    exact ⟨"tuple", ht, sub_builtin (ms := ["tuple", "object"]) (by decide +kernel), ap.tup,
      fun prog w A Q E q => wpAny_tryCompare_declines ht F.slot_tuple_eq (call_meets F.slot_tuple_eq ht F.entry_tuple_eq (F.args_tuple_eq_2 _ _) (tuple_eq_ins a x) ⟨notOf X hx ap.tup, rfl, q⟩),
      fun prog w A Q E q => wpAny_tryCompare_declines ht F.slot_tuple_ne (call_meets F.slot_tuple_ne ht F.entry_tuple_ne (F.args_tuple_ne_2 _ _) (tuple_ne_ins a x) ⟨notOf X hx ap.tup, rfl, q⟩)⟩

section
variable {prog : Program} {w : World} {A : Around} {E : Value → Shared → Prop} {s : Shared} {K : Frag} {x C L f dx : Addr} {h₀ : Heap} {m : Str → Option Value} {u : Value} {T : String} {od : Option Obj}
theorem type_ne (C : Addr) (T : String) : (Value.type T != Value.ref C) = true := by simp
theorem ne_type (C : Addr) (T : String) : (Value.ref C != Value.type T) = true := by simp
theorem notFirst_ty (h : subIn K (.type T) (.ref C) = some false) : notFirst K C (.type T) = true := by
  unfold notFirst
  rw [h]
  simp
/-- u == x, the other one's __eq__ asked -/
theorem eq_refl_K {Q : Value → Shared → Prop} (hu : A.units < cLine) (X : K.In s.heap) (hx : s.heap.get? x = some (instObj C dx)) (I : InstAt s.heap x (instObj C dx) C od) (D : Decl s K C x u T)
    (hs : findIn K (.ref C) "__eq__" = some (some (.ref f))) (hf : isFn K (.ref f) = true)
    (h : wpAny (model prog w) A (call (.ref f) [.ref x, u]) (PySem.W.CmpBack Q) E s) : wpAny (model prog w) A (richCompare .Eq u (.ref x)) Q E s := by
  have two : wpAny (model prog w) A (tryCompare (.ref x) "__eq__" u) (fun r s' => ∃ v, r = some v ∧ Q v s') E s := by
    unfold tryCompare
    refine wpAny_bind (ifBound_K X I hs hf (wpAny_mono h (fun v s' hv => ?_) fun _ _ e => e))
    cases v <;> first | exact hv.elim | exact wpAny_pure ⟨_, rfl, hv⟩
  simp only [richCompare, cmpInfo_Eq, D.ty.oneThing_none]
  refine wpAny_holding (wpAny_bind (wpAny_cRoomFor hu ?_))
  refine wpAny_bind (wpAny_typeOf D.ty (wpAny_bind (wpAny_typeOf_ref hx ?_)))
  rw [show (instObj C dx).cls = .ref C from rfl, type_ne]
  simp only [if_true]
  refine wpAny_bind ((looks_mroIn X D.mro).here ?_)
  simp only [Bool.false_eq_true, if_false, Bool.not_false, if_true]
  refine wpAny_bind (m := tryCompare u _ (.ref x)) (D.eq prog w A _ E ?_)
  refine wpAny_bind (m := tryCompare (.ref x) _ u) (wpAny_mono two (fun r s' z => ?_) fun _ _ e => e)
  obtain ⟨v, rfl, hq⟩ := z
  exact wpAny_pure hq
/-- object.__ne__ of x and any value -/
theorem ne_entry {Q : Fin → Shared → Prop} (hu : A.units < cLine) (X : K.In s.heap) (I : InstAt s.heap x (instObj C dx) C od)
    (hs : findIn K (.ref C) "__eq__" = some (some (.ref f))) (hf : isFn K (.ref f) = true)
    (hcall : wpAny (model prog w) A (call (.ref f) [.ref x, u]) (fun v s' => ∃ b, v = .bool b ∧ Q (.done (.ret (.bool (!b)))) s') E s) :
    wpAny (model prog w) A (Builtin.«object.__ne__» ⟨[.ref x, u], []⟩) Q E s := by
  unfold Builtin.«object.__ne__»
  repeat (first
    | with_reducible refine wpAny_cRoomFor hu ?_
    | (refine wpAny_bind (m := callSpecialIfBound? (.ref x) (Str.ofString "__eq__") [u])
        (ifBound_K X I hs hf (wpAny_mono hcall (fun v s' hv => by
          obtain ⟨b, rfl, hq⟩ := hv
          repeat (first | exact hq | exact wpAny_pure hq | exact wpAny_truthy_bool hq | (refine wpAny_bind (m := truthy (.bool _)) (wpAny_truthy_bool ?_)) | wp_step)) fun _ _ e => e)))
    | wp_step)
theorem try_ne {Q : Option Value → Shared → Prop} (hu : A.in1.units < cLine) (X : K.In s.heap) (I : InstAt s.heap x (instObj C dx) C od)
    (hs : findIn K (.ref C) "__eq__" = some (some (.ref f))) (hf : isFn K (.ref f) = true) (hm : mroIn K C (.type "object") = some true) (hn : findIn K (.ref C) "__ne__" = some (some (.builtin "object.__ne__")))
    (hcall : wpAny (model prog w) A.in1 (call (.ref f) [.ref x, u]) (fun v s' => ∃ b, v = .bool b ∧ Q (some (.bool (!b))) s') E s) :
    wpAny (model prog w) A (tryCompare (.ref x) "__ne__" u) Q E s := by
  unfold tryCompare
  refine wpAny_bind ?_
  simp only [callSpecialIfBound?, bindSpecialIfBound?]
  refine wpAny_holding (wpAny_bind (wpAny_bind (wpAny_bind (I.type.here ((looks_findIn X hn).here ?_)))))
  refine wpAny_bind (wpAny_askSetting (wpAny_ite ?_))
  have one : wpAny (model prog w) A (call (.builtin "object.__ne__") [.ref x, u]) (fun v s' => ∃ b, v = .bool b ∧ Q (some (.bool b)) s') E s :=
    wpAny_call (codeAny_call_builtin F.cmp_object.ne.plain F.cmpEntry_ne (check_slot F.cmpKind_ne F.cmpSplit_ne (I.type.andThen (looks_mroIn X hm)) (F.cmpArgs_ne _ _)
      (ne_entry (A := A.in1) hu X I hs hf (wpAny_mono hcall (fun v s' hv => by
        obtain ⟨b, rfl, hq⟩ := hv
        exact ⟨b, rfl, _, rfl, hq⟩) fun _ _ e => e))))
  have fin : wpAny (model prog w) A (call (.builtin "object.__ne__") ([.ref x] ++ [u]) >>= fun v => pure (some v)) (fun r s' => wpAny (model prog w) A (match r with
      | some .notImplemented | none => pure none
      | some v => pure (some v)) Q E s') E s := wpAny_bind (wpAny_mono one (fun v s' h' => by
    obtain ⟨b, rfl, hq⟩ := h'
    exact wpAny_pure (wpAny_pure hq)) fun _ _ h' => h')
  split
  · exact wpAny_bind (wpAny_of_eq (F.cmp_object.ne.bind _) (wpAny_pure (by exact fin)))
  · exact wpAny_tryCatch (wpAny_bind (wpAny_of_eq (F.cmp_object.ne.bind _) (wpAny_pure (by exact fin))))
/-- x != u -/
theorem ne_K {Q : Value → Shared → Prop} {tb : Value} (hu : A.units < cLine) (hu1 : A.in1.units < cLine) (X : K.In s.heap) (I : InstAt s.heap x (instObj C dx) C od) (hb : Looks (model prog w) s.heap (typeOf u) tb) (hn1 : notFirst K C tb = true)
    (hs : findIn K (.ref C) "__eq__" = some (some (.ref f))) (hf : isFn K (.ref f) = true) (hm : mroIn K C (.type "object") = some true) (hn : findIn K (.ref C) "__ne__" = some (some (.builtin "object.__ne__")))
    (hcall : wpAny (model prog w) A.in1 (call (.ref f) [.ref x, u]) (fun v s' => ∃ b, v = .bool b ∧ Q (.bool (!b)) s') E s) :
    wpAny (model prog w) A (richCompare .NotEq (.ref x) u) Q E s := by
  have one : wpAny (model prog w) A (tryCompare (.ref x) "__ne__" u) (fun r s' => ∃ v, r = some v ∧ Q v s') E s :=
    try_ne hu1 X I hs hf hm hn (wpAny_mono hcall (fun v s' hv => by
      obtain ⟨b, rfl, hq⟩ := hv
      exact ⟨b, rfl, _, rfl, hq⟩) fun _ _ e => e)
  simp only [richCompare, cmpInfo_NotEq, oneThing_ref]
  refine wpAny_holding (wpAny_bind (wpAny_cRoomFor hu ?_))
  refine wpAny_bind (I.type.here (wpAny_bind (hb.here ?_)))
  split
  · rename_i q
    have e : subIn K tb (.ref C) = some false := by
      rcases Bool.or_eq_true_iff.mp hn1 with e | e
      · rw [beq_iff_eq.mp e] at q; simp at q
      · exact beq_iff_eq.mp e
    refine wpAny_bind ((looks_subIn X e).here ?_)
    simp only [Bool.false_eq_true, if_false]
    refine wpAny_bind (m := tryCompare (.ref x) _ u) (wpAny_mono one (fun r s' z => ?_) fun _ _ e => e)
    obtain ⟨v, rfl, hq⟩ := z
    exact wpAny_pure hq
  · refine wpAny_bind (wpAny_pure ?_)
    simp only [Bool.false_eq_true, if_false]
    refine wpAny_bind (m := tryCompare (.ref x) _ u) (wpAny_mono one (fun r s' z => ?_) fun _ _ e => e)
    obtain ⟨v, rfl, hq⟩ := z
    exact wpAny_pure hq
/-- u != x -/
theorem ne_refl_K {Q : Value → Shared → Prop} (hu : A.units < cLine) (hu1 : A.in1.units < cLine) (X : K.In s.heap) (hx : s.heap.get? x = some (instObj C dx)) (I : InstAt s.heap x (instObj C dx) C od) (D : Decl s K C x u T)
    (hs : findIn K (.ref C) "__eq__" = some (some (.ref f))) (hf : isFn K (.ref f) = true) (hm : mroIn K C (.type "object") = some true) (hn : findIn K (.ref C) "__ne__" = some (some (.builtin "object.__ne__")))
    (hcall : wpAny (model prog w) A.in1 (call (.ref f) [.ref x, u]) (fun v s' => ∃ b, v = .bool b ∧ Q (.bool (!b)) s') E s) :
    wpAny (model prog w) A (richCompare .NotEq u (.ref x)) Q E s := by
  have two : wpAny (model prog w) A (tryCompare (.ref x) "__ne__" u) (fun r s' => ∃ v, r = some v ∧ Q v s') E s :=
    try_ne hu1 X I hs hf hm hn (wpAny_mono hcall (fun v s' hv => by
      obtain ⟨b, rfl, hq⟩ := hv
      exact ⟨b, rfl, _, rfl, hq⟩) fun _ _ e => e)
  simp only [richCompare, cmpInfo_NotEq, D.ty.oneThing_none]
  refine wpAny_holding (wpAny_bind (wpAny_cRoomFor hu ?_))
  refine wpAny_bind (wpAny_typeOf D.ty (wpAny_bind (wpAny_typeOf_ref hx ?_)))
  rw [show (instObj C dx).cls = .ref C from rfl, type_ne]
  simp only [if_true]
  refine wpAny_bind ((looks_mroIn X D.mro).here ?_)
  simp only [Bool.false_eq_true, if_false, Bool.not_false, if_true]
  refine wpAny_bind (m := tryCompare u _ (.ref x)) (D.ne prog w A _ E ?_)
  refine wpAny_bind (m := tryCompare (.ref x) _ u) (wpAny_mono two (fun r s' z => ?_) fun _ _ e => e)
  obtain ⟨v, rfl, hq⟩ := z
  exact wpAny_pure hq
end
end
theorem looks_ty {M : Model} {s : Shared} {u : Value} {T : String} (h : s.TypeIs u T) : PySem.W.Looks M s.heap (typeOf u) (.type T) := fun A Q E s' k q => by
  refine wpAny_typeOf (T := T) ?_ q
  cases u <;> first | exact h | (obtain ⟨o, h1, h2⟩ := h; exact ⟨o, k _ _ h1, h2⟩)
/-- what of the text the class must have -/
structure CmpC (K : PySem.W.Frag) (C : Addr) : Prop where
  ap : Apart K C
  ob : PySem.W.mroIn K C (.type "object") = some true
  ne : PySem.W.findIn K (.ref C) "__ne__" = some (some (.builtin "object.__ne__"))
def CmpTwo (C : Addr) (x y : V) (H : Hp) (a : Addr) (z : V) : Prop := (∃ dx fs, H a = some (.ins C dx fs)) ∧ ((x = .ref a ∧ y = z ∧ (Kind H z ∨ ∃ b dy gs, z = .ref b ∧ H b = some (.ins C dy gs))) ∨ (x = z ∧ y = .ref a ∧ Kind H z))
def rEqAny (C : Addr) (sp : Sp) : R2 := fun x y H Q => ∃ a z, CmpTwo C x y H a z ∧ sp [.ref a, z] H Q E0
def rNeAny (C : Addr) (sp : Sp) : R2 := fun x y H Q => ∃ a z, CmpTwo C x y H a z ∧ sp [.ref a, z] H (fun r H' => ∃ b, r = .bl b ∧ Q (.bl (!b)) H') E0
theorem op_eqAny {X : Cx} {k : Nat} {C f : Addr} {fd : FuncData} {ps : List Str} {sp : Sp} (c : CmpC X.K C) (m : Meth X.K C "__eq__" f) (F : FnOk X.prog X.w X.K X.mg X.base CX0 k f fd ps sp) (hr : Room k X.A) (hb : Binds X.K fd ps []) : OpR X (compareOp .Eq) (rEqAny C sp) := by
  intro pins s σ H x y v u Q I rx ry h
  obtain ⟨a, z, ⟨⟨dx, fs, ha⟩, h2⟩, h⟩ := h
  obtain ⟨mA, J, _⟩ := ins_get I.hok ha
  have hx := J.obj
  obtain ⟨od, J, _⟩ := J.look
  obtain ⟨m', hF⟩ := I.fr
  have hl : ([Value.ref a, v] ++ ([] : List Value)).length = ps.length := by
    rw [← F.len _ _ _ _ h]
    rfl
  have go : ∀ t, RelV z t → wpAny (model X.prog X.w) X.A (call (.ref f) [.ref a, t]) (PySem.W.CmpBack (EP X pins σ Q)) X.xe s := fun t rt =>
    wpAny_call (codeAny_mono (F.run X.A X.stack s H ⟨[.ref a, t], []⟩ [.ref a, t] [.ref a, z] _ E0 hr I.env0 (hb s [.ref a, t] I.kIn hl) (.cons rfl (.cons rt .nil)) h) fun r s' hq => by
      cases r with
      | error er => exact False.elim hq
      | ok fl =>
        cases fl with
        | ret w =>
          obtain ⟨z', H', I', rz, qz⟩ := I.after hq
          exact SlX.cmpback rz ⟨z', H', I', rz, qz⟩
        | next => exact False.elim hq
        | brk => exact False.elim hq
        | cont => exact False.elim hq)
  rcases h2 with ⟨rfl, rfl, h2⟩ | ⟨rfl, rfl, h2⟩
  · obtain rfl : v = Value.ref a := rx
    show wpAny (model X.prog X.w) X.A (richCompare .Eq (.ref a) u) (EP X pins σ Q) X.xe s
    rcases h2 with h2 | ⟨b, dy, gs, rfl, hb'⟩
    · obtain ⟨T, D⟩ := kind_decl I.hok I.kIn hx c.ap h2 ry
      exact PySem.W.cmp_K (op := .Eq) (tb := .type T) hr.units0 hF I.ok.mod.kin J (looks_ty D.ty) (notFirst_ty D.sub) m.at_ m.fn (go u ry)
    · obtain rfl : u = Value.ref b := ry
      obtain ⟨mB, J', _⟩ := ins_get I.hok hb'
      obtain ⟨od', J', _⟩ := J'.look
      exact PySem.W.cmp_K (op := .Eq) (tb := .ref C) hr.units0 hF I.ok.mod.kin J J'.type (by simp [PySem.W.notFirst]) m.at_ m.fn (go _ rfl)
  · obtain rfl : u = Value.ref a := ry
    obtain ⟨T, D⟩ := kind_decl I.hok I.kIn hx c.ap h2 rx
    exact eq_refl_K hr.units0 I.kIn hx J D m.at_ m.fn (go v rx)
theorem op_neAny {X : Cx} {k : Nat} {C f : Addr} {fd : FuncData} {ps : List Str} {sp : Sp} (c : CmpC X.K C) (m : Meth X.K C "__eq__" f) (F : FnOk X.prog X.w X.K X.mg X.base CX0 k f fd ps sp) (hr : Room (k + 1) X.A) (hb : Binds X.K fd ps []) : OpR X (compareOp .NotEq) (rNeAny C sp) := by
  intro pins s σ H x y v u Q I rx ry h
  obtain ⟨a, z, ⟨⟨dx, fs, ha⟩, h2⟩, h⟩ := h
  obtain ⟨mA, J, _⟩ := ins_get I.hok ha
  have hx := J.obj
  obtain ⟨od, J, _⟩ := J.look
  have hl : ([Value.ref a, v] ++ ([] : List Value)).length = ps.length := by
    rw [← F.len _ _ _ _ h]
    rfl
  have go : ∀ t, RelV z t → wpAny (model X.prog X.w) X.A.in1 (call (.ref f) [.ref a, t]) (fun v s' => ∃ b, v = .bool b ∧ EP X pins σ Q (.bool (!b)) s') X.xe s := fun t rt =>
    wpAny_call (codeAny_mono (F.run X.A.in1 X.stack s H ⟨[.ref a, t], []⟩ [.ref a, t] [.ref a, z] _ E0 hr.in1 I.env0.in1 (hb s [.ref a, t] I.kIn hl) (.cons rfl (.cons rt .nil)) h) fun r s' hq => by
      cases r with
      | error er => exact False.elim hq
      | ok fl =>
        cases fl with
        | ret w =>
          obtain ⟨z', H', I', rz, b, rfl, qz⟩ := I.after hq
          obtain rfl : w = Value.bool b := rz
          exact ⟨b, rfl, .bl (!b), H', I', rfl, qz⟩
        | next => exact False.elim hq
        | brk => exact False.elim hq
        | cont => exact False.elim hq)
  rcases h2 with ⟨rfl, rfl, h2⟩ | ⟨rfl, rfl, h2⟩
  · obtain rfl : v = Value.ref a := rx
    show wpAny (model X.prog X.w) X.A (richCompare .NotEq (.ref a) u) (EP X pins σ Q) X.xe s
    rcases h2 with h2 | ⟨b, dy, gs, rfl, hb'⟩
    · obtain ⟨T, D⟩ := kind_decl I.hok I.kIn hx c.ap h2 ry
      exact ne_K (tb := .type T) hr.units0 hr.in1.units0 I.kIn J (looks_ty D.ty) (notFirst_ty D.sub) m.at_ m.fn c.ob c.ne (go u ry)
    · obtain rfl : u = Value.ref b := ry
      obtain ⟨mB, J', _⟩ := ins_get I.hok hb'
      obtain ⟨od', J', _⟩ := J'.look
      exact ne_K (tb := .ref C) hr.units0 hr.in1.units0 I.kIn J J'.type (by simp [PySem.W.notFirst]) m.at_ m.fn c.ob c.ne (go _ rfl)
  · obtain rfl : u = Value.ref a := ry
    obtain ⟨T, D⟩ := kind_decl I.hok I.kIn hx c.ap h2 rx
    exact ne_refl_K hr.units0 hr.in1.units0 I.kIn hx J D m.at_ m.fn c.ob c.ne (go v rx)
theorem dp_ints {K : PySem.W.Frag} {H : Hp} : ∀ {ns : List Int}, DpAll K H (ns.map V.int) (ns.map PyData.int)
  | [] => .nil
  | _ :: _ => .cons (.int _) dp_ints
theorem lay_ints : ∀ (ns : List Int), PyData.canLayAll0 (ns.map PyData.int) = true
  | [] => rfl
  | _ :: r => by
    show (true && PyData.canLayAll0 (r.map PyData.int)) = true
    rw [lay_ints r]; rfl
theorem depth_ints : ∀ (ns : List Int), PyData.depthAll (ns.map PyData.int) ≤ 1
  | [] => by simp [PyData.depthAll]
  | a :: r => by
    have := depth_ints r
    simp only [List.map_cons, PyData.depthAll, PyData.depth]
    omega
theorem list_ok (ns : List Int) : SeqAt.shaped (.list (ns.map PyData.int)) = true := by
  unfold SeqAt.shaped
  rw [Bool.and_eq_true]
  have h := depth_ints ns
  exact ⟨lay_ints ns, decide_eq_true (by simp only [PyData.depth]; omega)⟩
def rList (K : PySem.W.Frag) : List V → Hp → VK → Prop := fun xs H Q => ∃ p ys, xs = [.ref p] ∧ (SqL K H p ys ∨ SqT K H p ys) ∧ ∀ l, H l = none → Q (.ref l) (upd H l (.lst ys))
def rLen (K : PySem.W.Frag) : List V → Hp → VK → Prop := fun xs H Q => ∃ p ys, xs = [.ref p] ∧ (SqL K H p ys ∨ SqT K H p ys) ∧ Q (.int ys.length) H
theorem pe_fldK {X : Cx} {K : PySem.W.Frag} (hK : X.K = K) {e : Expr} {f : Str} {pos : Pos} {ta : TE} (he : PE X e ta) (hb : attributeBase e f X.env (eval e X.env) = eval e X.env) : PE X (.Attribute e f pos) (tFld K ta f) := by
  subst hK
  exact pe_fld he hb
theorem pe_bmK {X : Cx} {K : PySem.W.Frag} (hK : X.K = K) {o e : Expr} {es : List Expr} {to : TE} {t : TA} {name : Str} {apos cpos : Pos} {T id : String} {r : V → List V → Hp → VK → Prop}
    (pa : PlainAttrs T) (slot : Slot T name id) (ty : typeOf (.builtin id) = pure (.type "method_descriptor")) (hm : MtR X id r) (ho : PE X o to) (ha : PA X (e :: es) t)
    (h1 : attributeBase o name X.env (eval o X.env) = eval o X.env := by rfl)
    (h2 : ((backTo cpos (starEach (e :: es) X.env)).all (fun x => !x.1) && (backToKw cpos (keywordEach [] X.env)).all (fun x => x.1.isSome) && decide ((e :: es).length + ([] : List Keyword).length + (if ([] : List Keyword).isEmpty then 0 else 1) < 30)) = true := by rfl)
    (h3 : (apos.endLine == cpos.line) = true := by rfl) (h4 : starEach (e :: es) X.env = (false, eval e X.env) :: starEach es X.env := by rfl) (h5 : (backTo cpos (starEach es X.env)).any (·.1) = false := by rfl) :
    PE X (.Call (.Attribute o name apos) (e :: es) [] cpos) (tBM K T r to t) := by
  subst hK
  exact pe_bm pa slot ty hm ho ha h1 h2 h3 h4 h5
def topS (i : Nat) : Stmt := PySem.Challenge.pw_plandays_k74_counted_that_are_equal.main.body.getD i (.Pass ⟨0, 0, 0, 0⟩)
abbrev s_PlanError_init : Stmt := inClass (topS 3) 0
theorem sc_PlanError_init : FnScope ["self", "value"] ["self", "value"] (defScope s_PlanError_init) := ⟨rfl, rfl, rfl, by decide +kernel, rfl, by decide +kernel, by decide +kernel⟩
abbrev s_value_at : Stmt := topS 19
theorem sc_value_at : FnScope ["poly", "n", "total", "ways", "j", "entry"] ["poly", "n"] (defScope s_value_at) := ⟨rfl, rfl, rfl, by decide +kernel, rfl, by decide +kernel, by decide +kernel⟩
abbrev s_without_zeros : Stmt := topS 20
theorem sc_without_zeros : FnScope ["poly", "many"] ["poly"] (defScope s_without_zeros) := ⟨rfl, rfl, rfl, by decide +kernel, rfl, by decide +kernel, by decide +kernel⟩
abbrev s_least_begin : Stmt := topS 25
theorem sc_least_begin : FnScope ["firsts", "poly", "begin"] ["firsts", "poly"] (defScope s_least_begin) := ⟨rfl, rfl, rfl, by decide +kernel, rfl, by decide +kernel, by decide +kernel⟩
abbrev s_Counted_init : Stmt := inClass (topS 34) 0
theorem sc_Counted_init : FnScope ["self", "firsts", "poly"] ["self", "firsts", "poly"] (defScope s_Counted_init) := ⟨rfl, rfl, rfl, by decide +kernel, rfl, by decide +kernel, by decide +kernel⟩
abbrev s_Counted_begin : Stmt := inClass (topS 34) 2
theorem sc_Counted_begin : FnScope ["self"] ["self"] (defScope s_Counted_begin) := ⟨rfl, rfl, rfl, by decide +kernel, rfl, by decide +kernel, by decide +kernel⟩
abbrev s_Counted_firsts : Stmt := inClass (topS 34) 3
theorem sc_Counted_firsts : FnScope ["self"] ["self"] (defScope s_Counted_firsts) := ⟨rfl, rfl, rfl, by decide +kernel, rfl, by decide +kernel, by decide +kernel⟩
abbrev s_Counted_poly : Stmt := inClass (topS 34) 4
theorem sc_Counted_poly : FnScope ["self"] ["self"] (defScope s_Counted_poly) := ⟨rfl, rfl, rfl, by decide +kernel, rfl, by decide +kernel, by decide +kernel⟩
abbrev s_Counted_getitem : Stmt := inClass (topS 34) 5
theorem sc_Counted_getitem : FnScope ["self", "at"] ["self", "at"] (defScope s_Counted_getitem) := ⟨rfl, rfl, rfl, by decide +kernel, rfl, by decide +kernel, by decide +kernel⟩
abbrev s_Counted_eq : Stmt := inClass (topS 34) 11
theorem sc_Counted_eq : FnScope ["self", "other"] ["self", "other"] (defScope s_Counted_eq) := ⟨rfl, rfl, rfl, by decide +kernel, rfl, by decide +kernel, by decide +kernel⟩
abbrev s_law_deck : Stmt := topS 36
theorem sc_law_deck : FnScope ["script", "mixed", "cell", "great"] ["script"] (defScope s_law_deck) := ⟨rfl, rfl, rfl, by decide +kernel, rfl, by decide +kernel, by decide +kernel⟩
abbrev s_law_draw : Stmt := topS 37
theorem sc_law_draw : FnScope ["deck", "many", "one"] ["deck", "many"] (defScope s_law_draw) := ⟨rfl, rfl, rfl, by decide +kernel, rfl, by decide +kernel, by decide +kernel⟩
abbrev s_law_great : Stmt := topS 38
theorem sc_law_great : FnScope ["deck", "many", "one", "k"] ["deck", "many"] (defScope s_law_great) := ⟨rfl, rfl, rfl, by decide +kernel, rfl, by decide +kernel, by decide +kernel⟩
abbrev s_law_list : Stmt := topS 39
theorem sc_law_list : FnScope ["deck", "most", "top", "times", "found", "k"] ["deck", "most"] (defScope s_law_list) := ⟨rfl, rfl, rfl, by decide +kernel, rfl, by decide +kernel, by decide +kernel⟩
abbrev s_law_value : Stmt := topS 40
theorem sc_law_value : FnScope ["row", "at", "total", "ways", "k", "entry"] ["row", "at"] (defScope s_law_value) := ⟨rfl, rfl, rfl, by decide +kernel, rfl, by decide +kernel, by decide +kernel⟩
abbrev s_law_lists : Stmt := topS 41
theorem sc_law_lists : FnScope ["deck", "most", "heads", "row", "low", "at"] ["deck", "most"] (defScope s_law_lists) := ⟨rfl, rfl, rfl, by decide +kernel, rfl, by decide +kernel, by decide +kernel⟩
abbrev s_law_order : Stmt := topS 42
theorem sc_law_order : FnScope ["deck", "many", "left", "k"] ["deck", "many"] (defScope s_law_order) := ⟨rfl, rfl, rfl, by decide +kernel, rfl, by decide +kernel, by decide +kernel⟩
abbrev s_law_needed : Stmt := topS 43
theorem sc_law_needed : FnScope ["heads", "row", "size"] ["heads", "row"] (defScope s_law_needed) := ⟨rfl, rfl, rfl, by decide +kernel, rfl, by decide +kernel, by decide +kernel⟩
abbrev s_law_trimmed : Stmt := topS 44
theorem sc_law_trimmed : FnScope ["row", "size"] ["row"] (defScope s_law_trimmed) := ⟨rfl, rfl, rfl, by decide +kernel, rfl, by decide +kernel, by decide +kernel⟩
abbrev s_law_changed : Stmt := topS 45
theorem sc_law_changed : FnScope ["deck", "numbers", "row", "way", "at", "k"] ["deck", "numbers", "row"] (defScope s_law_changed) := ⟨rfl, rfl, rfl, by decide +kernel, rfl, by decide +kernel, by decide +kernel⟩
abbrev s_law_compared : Stmt := topS 46
theorem sc_law_compared : FnScope ["one", "two", "due", "told", "unlike", "answer"] ["one", "two", "due"] (defScope s_law_compared) := ⟨rfl, rfl, rfl, by decide +kernel, rfl, by decide +kernel, by decide +kernel⟩
abbrev s_law : Stmt := topS 47
theorem sc_law : FnScope ["script", "deck", "data", "k", "numbers", "row", "made", "one", "two", "left", "right", "thing", "told"] ["script"] (defScope s_law) := ⟨rfl, rfl, rfl, by decide +kernel, rfl, by decide +kernel, by decide +kernel⟩
/-- what the top has written, as the walks ask it -/
structure Tx (K : PySem.W.Frag) (w : World) (mg : Str → Option Value) where
  C_Counted : Addr
  cl_Counted : Cls K C_Counted
  mg_Counted : mg "Counted" = some (.ref C_Counted)
  n_Counted_poly : NoAttr K C_Counted "_poly"
  n_Counted_firsts : NoAttr K C_Counted "_firsts"
  f_PlanError_init : Addr
  C_InvalidNumber : Addr
  mg_InvalidNumber : mg "InvalidNumber" = some (.ref C_InvalidNumber)
  ox_InvalidNumber : OexC K C_InvalidNumber
  ic_InvalidNumber : PySem.W.findIn K (.ref C_InvalidNumber) "__init__" = some (some (.ref f_PlanError_init))
  nv_InvalidNumber : PySem.W.findIn K (.ref C_InvalidNumber) "value" = some none
  xf_InvalidNumber : XfC K C_InvalidNumber
  ti : PySem.W.typeIn K (.ref f_PlanError_init) = some (.type "function")
  C_PlanError : Addr
  mg_PlanError : mg "PlanError" = some (.ref C_PlanError)
  d_PlanError_init : FuncData
  F_PlanError_init : Fun K "__init__" "PlanError.__init__" s_PlanError_init f_PlanError_init d_PlanError_init
  b_PlanError_init : Binds K d_PlanError_init ["self", "value"] []
  f_value_at : Addr
  d_value_at : FuncData
  F_value_at : Fun K "value_at" "value_at" s_value_at f_value_at d_value_at
  b_value_at : Binds K d_value_at ["poly", "n"] []
  g_value_at : mg "value_at" = some (.ref f_value_at)
  f_without_zeros : Addr
  d_without_zeros : FuncData
  F_without_zeros : Fun K "without_zeros" "without_zeros" s_without_zeros f_without_zeros d_without_zeros
  b_without_zeros : Binds K d_without_zeros ["poly"] []
  g_without_zeros : mg "without_zeros" = some (.ref f_without_zeros)
  f_least_begin : Addr
  d_least_begin : FuncData
  F_least_begin : Fun K "least_begin" "least_begin" s_least_begin f_least_begin d_least_begin
  b_least_begin : Binds K d_least_begin ["firsts", "poly"] []
  g_least_begin : mg "least_begin" = some (.ref f_least_begin)
  f_Counted_init : Addr
  d_Counted_init : FuncData
  F_Counted_init : Fun K "__init__" "Counted.__init__" s_Counted_init f_Counted_init d_Counted_init
  b_Counted_init : Binds K d_Counted_init ["self", "firsts", "poly"] []
  mk_Counted : Mk K C_Counted f_Counted_init
  f_Counted_begin : Addr
  d_Counted_begin : FuncData
  F_Counted_begin : Fun K "begin" "Counted.begin" s_Counted_begin f_Counted_begin d_Counted_begin
  b_Counted_begin : Binds K d_Counted_begin ["self"] []
  p_Counted_begin : Addr
  pr_Counted_begin : PropOf K C_Counted "begin" p_Counted_begin f_Counted_begin
  f_Counted_firsts : Addr
  d_Counted_firsts : FuncData
  F_Counted_firsts : Fun K "firsts" "Counted.firsts" s_Counted_firsts f_Counted_firsts d_Counted_firsts
  b_Counted_firsts : Binds K d_Counted_firsts ["self"] []
  p_Counted_firsts : Addr
  pr_Counted_firsts : PropOf K C_Counted "firsts" p_Counted_firsts f_Counted_firsts
  f_Counted_poly : Addr
  d_Counted_poly : FuncData
  F_Counted_poly : Fun K "poly" "Counted.poly" s_Counted_poly f_Counted_poly d_Counted_poly
  b_Counted_poly : Binds K d_Counted_poly ["self"] []
  p_Counted_poly : Addr
  pr_Counted_poly : PropOf K C_Counted "poly" p_Counted_poly f_Counted_poly
  f_Counted_getitem : Addr
  fn_Counted_getitem : PySem.W.fnIn K f_Counted_getitem = true
  d_Counted_getitem : FuncData
  F_Counted_getitem : Fun K "__getitem__" "Counted.__getitem__" s_Counted_getitem f_Counted_getitem d_Counted_getitem
  b_Counted_getitem : Binds K d_Counted_getitem ["self", "at"] []
  me_Counted_getitem : Meth K C_Counted "__getitem__" f_Counted_getitem
  f_Counted_eq : Addr
  d_Counted_eq : FuncData
  F_Counted_eq : Fun K "__eq__" "Counted.__eq__" s_Counted_eq f_Counted_eq d_Counted_eq
  b_Counted_eq : Binds K d_Counted_eq ["self", "other"] []
  me_Counted_eq : Meth K C_Counted "__eq__" f_Counted_eq
  f_law_deck : Addr
  d_law_deck : FuncData
  F_law_deck : Fun K "_law_deck" "_law_deck" s_law_deck f_law_deck d_law_deck
  b_law_deck : Binds K d_law_deck ["script"] []
  g_law_deck : mg "_law_deck" = some (.ref f_law_deck)
  f_law_draw : Addr
  d_law_draw : FuncData
  F_law_draw : Fun K "_law_draw" "_law_draw" s_law_draw f_law_draw d_law_draw
  b_law_draw : Binds K d_law_draw ["deck", "many"] []
  g_law_draw : mg "_law_draw" = some (.ref f_law_draw)
  f_law_great : Addr
  d_law_great : FuncData
  F_law_great : Fun K "_law_great" "_law_great" s_law_great f_law_great d_law_great
  b_law_great : Binds K d_law_great ["deck", "many"] []
  g_law_great : mg "_law_great" = some (.ref f_law_great)
  f_law_list : Addr
  d_law_list : FuncData
  F_law_list : Fun K "_law_list" "_law_list" s_law_list f_law_list d_law_list
  b_law_list : Binds K d_law_list ["deck", "most"] []
  g_law_list : mg "_law_list" = some (.ref f_law_list)
  f_law_value : Addr
  d_law_value : FuncData
  F_law_value : Fun K "_law_value" "_law_value" s_law_value f_law_value d_law_value
  b_law_value : Binds K d_law_value ["row", "at"] []
  g_law_value : mg "_law_value" = some (.ref f_law_value)
  f_law_lists : Addr
  d_law_lists : FuncData
  F_law_lists : Fun K "_law_lists" "_law_lists" s_law_lists f_law_lists d_law_lists
  b_law_lists : Binds K d_law_lists ["deck", "most"] []
  g_law_lists : mg "_law_lists" = some (.ref f_law_lists)
  f_law_order : Addr
  d_law_order : FuncData
  F_law_order : Fun K "_law_order" "_law_order" s_law_order f_law_order d_law_order
  b_law_order : Binds K d_law_order ["deck", "many"] []
  g_law_order : mg "_law_order" = some (.ref f_law_order)
  f_law_needed : Addr
  d_law_needed : FuncData
  F_law_needed : Fun K "_law_needed" "_law_needed" s_law_needed f_law_needed d_law_needed
  b_law_needed : Binds K d_law_needed ["heads", "row"] []
  g_law_needed : mg "_law_needed" = some (.ref f_law_needed)
  f_law_trimmed : Addr
  d_law_trimmed : FuncData
  F_law_trimmed : Fun K "_law_trimmed" "_law_trimmed" s_law_trimmed f_law_trimmed d_law_trimmed
  b_law_trimmed : Binds K d_law_trimmed ["row"] []
  g_law_trimmed : mg "_law_trimmed" = some (.ref f_law_trimmed)
  f_law_changed : Addr
  d_law_changed : FuncData
  F_law_changed : Fun K "_law_changed" "_law_changed" s_law_changed f_law_changed d_law_changed
  b_law_changed : Binds K d_law_changed ["deck", "numbers", "row"] []
  g_law_changed : mg "_law_changed" = some (.ref f_law_changed)
  f_law_compared : Addr
  d_law_compared : FuncData
  F_law_compared : Fun K "_law_compared" "_law_compared" s_law_compared f_law_compared d_law_compared
  b_law_compared : Binds K d_law_compared ["one", "two", "due"] []
  g_law_compared : mg "_law_compared" = some (.ref f_law_compared)
  f_law : Addr
  d_law : FuncData
  F_law : Fun K "law" "law" s_law f_law d_law
  b_law : Binds K d_law ["script"] []
  g_law : mg "law" = some (.ref f_law)
  m_all : mg "all" = none
  m_bool : mg "bool" = none
  m_enumerate : mg "enumerate" = none
  m_int : mg "int" = none
  m_isinstance : mg "isinstance" = none
  m_len : mg "len" = none
  m_list : mg "list" = none
  m_range : mg "range" = none
  m_comb : mg "comb" = some (.builtin "math.comb")
  m_zip_longest : mg "zip_longest" = some (.type "itertools.zip_longest")
  xa_Counted : PySem.W.findIn K (.ref C_Counted) "__class__" = some (some (.builtin "object.__class__"))
  xn_Counted : PySem.W.specialIn K (.builtin "object.__class__") "__get__" = some (some (.builtin "getset_descriptor.__get__"))
  xt_Counted : PySem.W.takesIn K (.builtin "object.__class__") = some true
  xm_Counted : PySem.W.mroIn K C_Counted (.type "object") = some true
  tc_Counted : PySem.W.typeIn K (.ref C_Counted) = some (.type "type")
  cm_Counted : CmpC K C_Counted
section
variable {P : Program} {w : World} {K : PySem.W.Frag} {mg : Str → Option Value} {base : Heap}
/-! ### values of polynomials, walked -/
/-- sizes at which no step of the value is too long -/
def VOk (row : List Int) (n : Int) : Prop := ∃ B b : Nat, (∀ a ∈ row, a.natAbs < 2 ^ B) ∧ n.natAbs + row.length ≤ 2 ^ b ∧ 1 ≤ B ∧ 1 ≤ b ∧ B + b * row.length + b + 2 ≤ 900000 ∧ row.length ≤ 400
theorem VOk.ops {row : List Int} {n a : Int} {i : Nat} (h : VOk row n) (g : row[i]? = some a) : CMulW a (W n i) ∧ CMulW (W n i) (n - (0 + (i : Int))) ∧ CDivW (W n i * (n - (0 + (i : Int)))) (0 + (i : Int) + 1) := by
  obtain ⟨B, b, h1, h2, h3, h4, h5, h6⟩ := h
  have hi := (List.getElem?_eq_some_iff.mp g).1
  have ha := h1 a (List.mem_of_getElem? g)
  have hw : (W n i).natAbs ≤ 2 ^ (b * i) := W_size (by omega)
  have hb : b * i ≤ b * row.length := Nat.mul_le_mul_left _ (by omega)
  have hw2 : (W n i).natAbs < 2 ^ (b * i + 1) := Nat.lt_of_le_of_lt hw (Nat.pow_lt_pow_right (by decide) (by omega))
  have hn : (n - (0 + (i : Int))).natAbs < 2 ^ (b + 1) := Nat.lt_of_le_of_lt (by omega) (Nat.pow_lt_pow_right (by decide) (show b < b + 1 by omega))
  refine ⟨wide_mul ha hw2 (by omega) (by omega) (by omega), wide_mul hw2 hn (by omega) (by omega) (by omega), wide_div (b := 10) (by omega) ?_ (by decide) (by decide)⟩
  show _ < 1024
  omega
theorem W_go (n : Int) (i : Nat) : W n i * (n - (0 + (i : Int))) / (0 + (i : Int) + 1) = W n (i + 1) := by
  rw [Int.zero_add]
  exact W_div n i
def sp_value (K : PySem.W.Frag) : Sp := fun vs H Q _ => ∃ p row n, vs = [.ref p, .int n] ∧ SqL K H p (row.map V.int) ∧ VOk row n ∧ ∀ H', Same H H' → Q (.int (pol row n)) H'
theorem ok_value_at (T : Tx K w mg) : FnOk P w K mg base CX0 1 T.f_value_at T.d_value_at ["poly", "n"] (sp_value K) := by
  refine T.F_value_at.ok sc_value_at (fun vs H Q E h => ?_) (fun cdv A outer s H vs Q E hr h => ?_)
  · obtain ⟨p, row, n, rfl, _⟩ := h
    rfl
  · obtain ⟨p, row, n, rfl, hS, hv, k⟩ := h
    refine ⟨_,
    (pss_cons
      (ps_set (i := 2) sc_value_at.nd rfl (.inl rfl) pe_int)
    (pss_cons
      (ps_set (i := 3) sc_value_at.nd rfl (.inl rfl) pe_int)
    (pss_cons
      (ps_for PassesOwn.never rfl (pi_enum (by rfl) T.m_enumerate (pa_cons (pv 0) pa_nil)) (pg_tup (by rfl) (pgs_cons (pg_name (i := 4) sc_value_at.nd rfl (.inl rfl)) (pgs_cons (pg_name (i := 5) sc_value_at.nd rfl (.inl rfl)) pgs_nil)))
        (pss_cons
          (ps_set (i := 2) sc_value_at.nd rfl (.inl rfl) (pe_op op_add (pv 2) (pe_op op_mulW (pv 5) (pv 3))))
        (pss_one
          (ps_set (i := 3) sc_value_at.nd rfl (.inl rfl) (pe_op op_fdivW (pe_op op_mulW (pv 3) (pe_op op_sub (pv 1) (pv 4))) (pe_op op_add (pv 4) pe_int))))))
    (pss_one
      (ps_ret (pv 2)))))), ?_⟩
    refine ⟨_, rfl, p, _, rfl, hS, for_enum (xs := row.map V.int) (fun i σ H' => Same H H' ∧ ∃ x4 x5, σ = [some (.ref p), some (.int n), some (.int (pol (row.take i) n)), some (.int (W n i)), x4, x5]) ?_ ?_ ?_ ?_⟩
    · exact ⟨Same.refl H, none, none, rfl⟩
    · rintro i σ H' _ ⟨sm, _⟩
      exact sm.seq hS
    · rintro i x σ H1 U hi ⟨sm, x4, x5, rfl⟩ hU
      rw [List.getElem?_map] at hi
      obtain ⟨a, ha, rfl⟩ := Option.map_eq_some_iff.mp hi
      obtain ⟨c1, c2, c3⟩ := hv.ops ha
      rw [Int.zero_add] at c2 c3
      refine ⟨U, _, rfl, .of upd_same, rfl, _, _, rfl, _, _, rfl, rfl, _, rfl, _, rfl, _, rfl, _, _, rfl, rfl, c1, _, _, rfl, rfl, ?_⟩
      refine ⟨_, rfl, _, rfl, _, rfl, _, _, rfl, rfl, _, _, rfl, rfl, c2, _, rfl, _, _, rfl, rfl, _, _, rfl, rfl, c3, ?_⟩
      refine ⟨sm.trans (same_upd hU), some (V.int (i : Nat)), some (V.int a), ?_⟩
      rw [pol_take ha, ← W_div]
      rfl
    · rintro σ H1 ⟨sm, x4, x5, rfl⟩
      rw [List.length_map, List.take_of_length_le (Nat.le_refl _)]
      exact ⟨_, rfl, k H1 sm⟩
theorem kb_value_at (T : Tx K w mg) : KBn K T.d_value_at ["poly", "n"] 0 ["poly", "n"] (fun _ ws => ws) (fun _ zs => zs) := by
  obtain ⟨oc, od, kV, doc, pm, an, cdv, ct, osl, e, _, _⟩ := T.F_value_at.ex
  refine ⟨fun s us ws _ h1 h2 => ?_, fun _ r => r⟩
  rw [e]
  match us, ws, h1, h2 with
  | [], [_, _], _, _ => exact BindsTo.of_eq rfl
/-! ### polynomials walked: without zeros, differences, products -/
theorem map_take_int (r : List Int) (m : Nat) : cutV (r.map V.int) none (some (m : Int)) = (r.take m).map V.int := (cut_take _ m).trans List.map_take.symm
theorem trim_take {r : List Int} {m : Nat} (hm : m < r.length) (h0 : r[m]? = some 0) (h : trim (r.take (m + 1)) = trim r) : trim (r.take m) = trim r := by
  rw [← h, List.take_add_one, h0]
  exact (trim_snoc0 _).symm
theorem trim_done {r : List Int} {m : Nat} {a : Int} (hm : m < r.length) (ha : r[m]? = some a) (h0 : a ≠ 0) (h : trim (r.take (m + 1)) = trim r) : trim r = r.take (m + 1) := by
  rw [← h, List.take_add_one, ha]
  exact trim_snoc _ h0
def sp_trim (K : PySem.W.Frag) : Sp := fun vs H Q _ => ∃ p r, vs = [.ref p] ∧ SqL K H p (r.map V.int) ∧ r.length ≤ 900 ∧ ∀ q, H q = none → Q (.ref q) (upd H q (.lst ((trim r).map V.int)))
theorem ok_without_zeros (T : Tx K w mg) : FnOk P w K mg base CX0 1 T.f_without_zeros T.d_without_zeros ["poly"] (sp_trim K) := by
  refine T.F_without_zeros.ok sc_without_zeros (fun vs H Q E h => ?_) (fun cdv A outer s H vs Q E hr h => ?_)
  · obtain ⟨p, r, rfl, _⟩ := h
    rfl
  · obtain ⟨p, r, rfl, hS, hl, k⟩ := h
    refine ⟨_,
    (pss_cons
      (ps_set (i := 1) sc_without_zeros.nd rfl (.inl rfl) (pe_callB call_len_seq (by rfl) T.m_len (by decide +kernel) (pa_cons (pv 0) pa_nil)))
    (pss_cons
      (ps_while PassesOwn.never (PW.pt (pw_and (pt_cmpR op_gt (pv 1) pe_int (nomark _)) (pw_and1 (pt_cmpR op_eq (pe_ix ix_list (pv 0) (pe_op op_sub (pv 1) pe_int) (fun _ _ => rfl)) pe_int (nomark _)))))
        (pss_one
          (ps_aug (i := 1) sc_without_zeros.nd rfl (.inl rfl) pe_int ip_sub)))
    (pss_one
      (ps_ret (pe_slice sl_list (pv 0) po_none (po_some (pv 1))))))), ?_⟩
    refine ⟨_, rfl, p, _, rfl, .inl hS, ?_⟩
    rw [List.length_map]
    refine ⟨fun t σ H' => H' = H ∧ t ≤ r.length ∧ trim (r.take t) = trim r ∧ σ = [some (.ref p), some (.int (t : Int))], ⟨r.length, rfl, Nat.le_refl _, by rw [List.take_length], rfl⟩, ?_⟩
    rintro t σ H1 ⟨rfl, ht, e, rfl⟩
    refine ⟨_, rfl, _, _, rfl, rfl, _, rfl, ite2 (fun c1 => ?_) (fun c1 => ?_)⟩
    · have t0 : (0 : Int) < (t : Int) := of_decide_eq_true c1
      obtain ⟨m, rfl⟩ : ∃ m, t = m + 1 := ⟨t - 1, by omega⟩
      have hm : m < r.length := by omega
      have ga : r[m]? = some r[m] := List.getElem?_eq_getElem hm
      have gv : (r.map V.int)[m]? = some (V.int r[m]) := by rw [List.getElem?_map, ga]; rfl
      refine ⟨_, rfl, _, rfl, _, _, rfl, rfl, p, _, _, _, rfl, rfl, hS, at_of (j := m) (by omega) gv, rfl, _, rfl, ite2 (fun c2 => ?_) (fun c2 => ?_)⟩
      · have z : r[m] = 0 := V.int.inj (of_decide_eq_true c2)
        refine ⟨fun σ' H' => H' = H1 ∧ σ' = [some (.ref p), some (.int (m : Int))], fun σ' H' ⟨h1, h2⟩ => ⟨m, Nat.lt_succ_self m, h1, by omega, trim_take hm (by rw [ga, z]) e, h2⟩, ?_⟩
        refine ⟨_, rfl, _, _, rfl, rfl, rfl, ?_⟩
        show [some (V.ref p), some (V.int (((m + 1 : Nat) : Int) - 1))] = _
        rw [show ((m + 1 : Nat) : Int) - 1 = (m : Int) by omega]
      · have z : r[m] ≠ 0 := fun z => c2 (decide_eq_true (congrArg V.int z))
        rw [trim_done hm ga z e] at k
        refine ⟨_, rfl, _, rfl, _, rfl, p, _, rfl, hS, fun q hq => ?_⟩
        rw [map_take_int]
        exact k q hq
    · have t0 : t = 0 := by
        have : ¬ (0 : Int) < (t : Int) := fun z => c1 (decide_eq_true z)
        omega
      subst t0
      have e2 : trim r = r.take 0 := by rw [← e]; rfl
      rw [e2] at k
      refine ⟨_, rfl, _, rfl, _, rfl, p, _, rfl, hS, fun q hq => ?_⟩
      rw [show cutV (r.map V.int) none (some ((0 : Nat) : Int)) = (r.take 0).map V.int from map_take_int r 0]
      exact k q hq
/-! ### errors -/
theorem ok_PlanError_init (T : Tx K w mg) : FnOk P w K mg base CX0 1 T.f_PlanError_init T.d_PlanError_init ["self", "value"] (sp_einit K) := by
  refine T.F_PlanError_init.ok sc_PlanError_init (fun vs H Q E h => ?_) (fun cdv A outer s H vs Q E hr h => ?_)
  · obtain ⟨a, C, y, rfl, _⟩ := h
    rfl
  · obtain ⟨a, C, y, rfl, ox, nv, ha, k⟩ := h
    refine ⟨_,
    (pss_one
      (ps_ost (pv 0) (pv 1))), ?_⟩
    exact ⟨_, rfl, _, rfl, a, C, rfl, ox, nv, .inl ⟨ha, k⟩⟩
/-! ### a Counted in the heap -/
theorem ckc : ¬ (("_poly" : Str) = "_firsts") := by decide +kernel
def cfl (p f : Addr) : List (Str × V) := putF "_firsts" (.ref f) (putF "_poly" (.ref p) [])
theorem cfl_p (p f : Addr) : (cfl p f).lookup ("_poly" : Str) = some (.ref p) := by
  unfold cfl
  rw [lookup_putF, if_neg ckc, lookup_putF, if_pos rfl]
theorem cfl_f (p f : Addr) : (cfl p f).lookup ("_firsts" : Str) = some (.ref f) := by
  unfold cfl
  rw [lookup_putF, if_pos rfl]
theorem cfl_1 (p : Addr) : (putF "_poly" (.ref p) [] : List (Str × V)).lookup ("_poly" : Str) = some (.ref p) := by
  rw [lookup_putF, if_pos rfl]
def RowOk (r : List Int) : Prop := ∃ B, Sz B r ∧ 1 ≤ B ∧ B ≤ 800000 ∧ r.length ≤ 200
theorem RowOk.v {r : List Int} {n : Int} (h : RowOk r) (hn : n.natAbs ≤ 2 ^ 119) : VOk r n := by
  obtain ⟨B, h1, h2, h3, h4⟩ := h
  have : (2 : Nat) ^ 119 + 200 ≤ 2 ^ 120 := by decide +kernel
  exact ⟨B, 120, h1, by omega, h2, by decide, by omega, by omega⟩
theorem RowOk.small {r : List Int} {n : Int} (h : RowOk r) (hn : n.natAbs ≤ 100000) : VOk r n := h.v (Nat.le_trans hn (by decide +kernel))
theorem RowOk.trim {r : List Int} (h : RowOk r) : RowOk (trim r) := by
  obtain ⟨B, h1, h2, h3, h4⟩ := h
  exact ⟨B, trim_size h1, h2, h3, Nat.le_trans (trim_length r) h4⟩
def lbg (h : List Int) (f : Int → Int) : Nat → Nat
  | 0 => 0
  | k + 1 => if h.getD k 0 = f (k : Int) then lbg h f k else k + 1
theorem lbg_le (h : List Int) (f : Int → Int) : ∀ k, lbg h f k ≤ k
  | 0 => Nat.le_refl _
  | k + 1 => by
    show (if h.getD k 0 = f (k : Int) then lbg h f k else k + 1) ≤ k + 1
    split
    · exact Nat.le_succ_of_le (lbg_le h f k)
    · exact Nat.le_refl _
def needL (h r : List Int) : List Int := h.take (lbg h (pol r) h.length)
def sp_least (K : PySem.W.Frag) : Sp := fun vs H Q _ => ∃ (f p : Addr) (h r : List Int), vs = [.ref f, .ref p] ∧ H f = some (.lst (h.map V.int)) ∧ H p = some (.lst (r.map V.int)) ∧ h.length ≤ 900 ∧ RowOk r ∧ ∀ H', Same H H' → Q (.int (lbg h (pol r) h.length : Nat)) H'
theorem ok_least_begin (T : Tx K w mg) : FnOk P w K mg base CX0 2 T.f_least_begin T.d_least_begin ["firsts", "poly"] (sp_least K) := by
  refine T.F_least_begin.ok sc_least_begin (fun vs H Q E h => ?_) (fun cdv A outer s H vs Q E hr h => ?_)
  · obtain ⟨f, p, h, r, rfl, _⟩ := h
    rfl
  · obtain ⟨f, p, h, r, rfl, hf, hp, hl, ok, k⟩ := h
    refine ⟨_,
    (pss_cons
      (ps_set (i := 2) sc_least_begin.nd rfl (.inl rfl) (pe_callB call_len_seq (by rfl) T.m_len (by decide +kernel) (pa_cons (pv 0) pa_nil)))
    (pss_cons
      (ps_while PassesOwn.never (PW.pt (pw_and (pt_cmpR op_gt (pv 2) pe_int (nomark _)) (pw_and1 (pt_cmpR op_eq (pe_ix ix_list (pv 0) (pe_op op_sub (pv 2) pe_int) (fun _ _ => rfl)) (pe_call (ok_value_at T) hr (by rfl) T.g_value_at T.F_value_at.kp T.b_value_at .nil pass0 (pa_cons (pv 1) (pa_cons (pe_op op_sub (pv 2) pe_int) pa_nil))) (nomark _)))))
        (pss_one
          (ps_aug (i := 2) sc_least_begin.nd rfl (.inl rfl) pe_int ip_sub)))
    (pss_one
      (ps_ret (pv 2))))), ?_⟩
    refine ⟨_, rfl, f, _, rfl, .inl (.of hf), ?_⟩
    rw [List.length_map]
    refine ⟨fun t σ H' => Same H H' ∧ t ≤ h.length ∧ lbg h (pol r) t = lbg h (pol r) h.length ∧ σ = [some (.ref f), some (.ref p), some (.int (t : Int))], ⟨h.length, Same.refl H, Nat.le_refl _, rfl, rfl⟩, ?_⟩
    rintro t σ H1 ⟨s1, ht, e, rfl⟩
    refine ⟨_, rfl, _, _, rfl, rfl, _, rfl, ite2 (fun c1 => ?_) (fun c1 => ?_)⟩
    · have t0 : (0 : Int) < (t : Int) := of_decide_eq_true c1
      obtain ⟨m, rfl⟩ : ∃ m, t = m + 1 := ⟨t - 1, by omega⟩
      have hm : m < h.length := by omega
      have ga : h[m]? = some (h.getD m 0) := by rw [List.getD_eq_getElem?_getD, List.getElem?_eq_getElem hm]; rfl
      have gv : (h.map V.int)[m]? = some (V.int (h.getD m 0)) := by rw [List.getElem?_map, ga]; rfl
      refine ⟨_, rfl, _, rfl, _, _, rfl, rfl, f, _, _, _, rfl, rfl, .of (s1 _ _ hf), at_of (j := m) (by omega) gv, _, rfl, _, rfl, _, _, rfl, rfl, p, r, (m : Int), (by show [V.ref p, V.int (((m + 1 : Nat) : Int) - 1)] = _; rw [show ((m + 1 : Nat) : Int) - 1 = (m : Int) by omega]), .of (s1 _ _ hp), ok.small (by omega), fun H2 s2 => ⟨rfl, _, rfl, ite2 (fun c2 => ?_) (fun c2 => ?_)⟩⟩
      · have z : h.getD m 0 = pol r (m : Int) := V.int.inj (of_decide_eq_true c2)
        refine ⟨fun σ' H' => Same H H' ∧ σ' = [some (.ref f), some (.ref p), some (.int (m : Int))], fun σ' H' ⟨h1, h2⟩ => ⟨m, Nat.lt_succ_self m, h1, by omega, by rw [← e]; exact (if_pos z).symm, h2⟩, ?_⟩
        refine ⟨_, rfl, _, _, rfl, rfl, s1.trans s2, ?_⟩
        show [some (V.ref f), some (V.ref p), some (V.int (((m + 1 : Nat) : Int) - 1))] = _
        rw [show ((m + 1 : Nat) : Int) - 1 = (m : Int) by omega]
      · have z : ¬ h.getD m 0 = pol r (m : Int) := fun z => c2 (decide_eq_true (congrArg V.int z))
        have e2 : m + 1 = lbg h (pol r) h.length := by rw [← e]; exact (if_neg z).symm
        refine ⟨_, rfl, ?_⟩
        rw [e2]
        exact k _ (s1.trans s2)
    · have t0 : t = 0 := by
        have : ¬ (0 : Int) < (t : Int) := fun z => c1 (decide_eq_true z)
        omega
      subst t0
      have e2 : lbg h (pol r) h.length = 0 := e.symm
      rw [e2] at k
      exact ⟨_, rfl, k _ s1⟩
def sp_cinit (K : PySem.W.Frag) (C : Addr) : Sp := fun vs H Q _ => ∃ (x dx f p : Addr) (h r : List Int), vs = [.ref x, .ref f, .ref p] ∧ H x = some (.ins C dx []) ∧ H f = some (.lst (h.map V.int)) ∧ H p = some (.lst (r.map V.int)) ∧ h.length ≤ 900 ∧ RowOk r ∧
  ∀ q F H', H q = none → H F = none → H' x = some (.ins C dx (cfl q F)) → H' q = some (.lst ((trim r).map V.int)) → H' F = some (.lst ((needL h (trim r)).map V.int)) → (∀ b o, H b = some o → b ≠ x → H' b = some o) → Q .non H'
theorem ok_Counted_init (T : Tx K w mg) : FnOk P w K mg base CX0 3 T.f_Counted_init T.d_Counted_init ["self", "firsts", "poly"] (sp_cinit K T.C_Counted) := by
  refine T.F_Counted_init.ok sc_Counted_init (fun vs H Q E h => ?_) (fun cdv A outer s H vs Q E hr h => ?_)
  · obtain ⟨x, dx, f, p, h, r, rfl, _⟩ := h
    rfl
  · obtain ⟨x, dx, f, p, h, r, rfl, hx, hf, hp, hl, ok, k⟩ := h
    refine ⟨_,
    (pss_cons
      (ps_fld (pv 0) (pe_call (ok_without_zeros T) (hr.mono (by decide)) (by rfl) T.g_without_zeros T.F_without_zeros.kp T.b_without_zeros .nil pass0 (pa_cons (pv 2) pa_nil)) rfl)
    (pss_one
      (ps_fld (pv 0) (pe_slice sl_list (pv 1) po_none (po_some (pe_call (ok_least_begin T) hr (by rfl) T.g_least_begin T.F_least_begin.kp T.b_least_begin .nil pass0 (pa_cons (pv 1) (pa_cons (pe_fld (pv 0) rfl) pa_nil))))) rfl))), ?_⟩
    have rl : r.length ≤ 900 := by
      obtain ⟨B, h1, h2, h3, h4⟩ := ok
      omega
    refine ⟨_, rfl, p, r, rfl, .of hp, rl, fun q hq => ?_⟩
    have xq : x ≠ q := ne_of_none hx hq
    have fx : f ≠ x := ne_of hf hx (by intro z; cases z)
    have px : p ≠ x := ne_of hp hx (by intro z; cases z)
    have fq : f ≠ q := ne_of_none hf hq
    have hx1 := same_upd (o := .lst ((trim r).map V.int)) hq _ _ hx
    refine ⟨_, rfl, x, T.C_Counted, dx, [], rfl, hx1, T.cl_Counted, T.n_Counted_poly, (by show 0 < 1000; decide), ?_⟩
    have ex : (upd (upd H q (.lst ((trim r).map V.int))) x (.ins T.C_Counted dx (putF "_poly" (.ref q) []))) x = some (.ins T.C_Counted dx (putF "_poly" (.ref q) [])) := upd_same
    have eq : (upd (upd H q (.lst ((trim r).map V.int))) x (.ins T.C_Counted dx (putF "_poly" (.ref q) []))) q = some (.lst ((trim r).map V.int)) := by rw [upd_ne xq.symm, upd_same]
    have ef : (upd (upd H q (.lst ((trim r).map V.int))) x (.ins T.C_Counted dx (putF "_poly" (.ref q) []))) f = some (.lst (h.map V.int)) := by rw [upd_ne fx, upd_ne fq]; exact hf
    have kp : ∀ b o, H b = some o → b ≠ x → (upd (upd H q (.lst ((trim r).map V.int))) x (.ins T.C_Counted dx (putF "_poly" (.ref q) []))) b = some o := fun b o e nb => by
      rw [upd_ne nb, upd_ne (ne_of_none e hq)]; exact e
    generalize upd (upd H q (.lst ((trim r).map V.int))) x (.ins T.C_Counted dx (putF "_poly" (.ref q) [])) = H1 at ex eq ef kp ⊢
    refine ⟨_, rfl, _, rfl, _, rfl, x, T.C_Counted, dx, _, _, rfl, ex, T.cl_Counted, T.n_Counted_poly, cfl_1 q, f, q, h, trim r, rfl, ef, eq, hl, ok.trim, fun H2 s2 => ⟨_, rfl, f, _, rfl, .of (s2 _ _ ef), fun F hF => ?_⟩⟩
    rw [map_take_int]
    have xF : x ≠ F := ne_of_none (s2 _ _ ex) hF
    have qF : q ≠ F := ne_of_none (s2 _ _ eq) hF
    have fF0 : H F = none := by
      cases hz : H F with
      | none => rfl
      | some o => rw [s2 _ _ (kp _ _ hz xF.symm)] at hF; cases hF
    refine ⟨_, rfl, x, T.C_Counted, dx, _, rfl, same_upd hF _ _ (s2 _ _ ex), T.cl_Counted, T.n_Counted_firsts, (by show 1 < 1000; decide), k q F _ hq fF0 upd_same ?_ ?_ fun b o e nb => ?_⟩
    · rw [upd_ne xq.symm]; exact same_upd hF _ _ (s2 _ _ eq)
    · rw [upd_ne xF.symm, upd_same]; rfl
    · rw [upd_ne nb]; exact same_upd hF _ _ (s2 _ _ (kp b o e nb))
theorem kb_Counted_init (T : Tx K w mg) : KBn K T.d_Counted_init ["self", "firsts", "poly"] 1 ["poly", "firsts"] (fun us ws => us ++ ws.reverse) (fun vs zs => vs ++ zs.reverse) := by
  obtain ⟨oc, od, kV, doc, pm, an, cdv, ct, osl, e, _, _⟩ := T.F_Counted_init.ex
  refine ⟨fun s us ws _ h1 h2 => ?_, fun r1 r2 => r1.append r2.reverse⟩
  rw [e]
  match us, ws, h1, h2 with
  | [_], [_, _], _, _ => exact BindsTo.of_eq rfl
def sp_cbegin (K : PySem.W.Frag) (C : Addr) : Sp := fun vs H Q _ => ∃ c dx p f xs, vs = [.ref c] ∧ H c = some (.ins C dx (cfl p f)) ∧ H f = some (.lst xs) ∧ Q (.int xs.length) H
theorem ok_Counted_begin (T : Tx K w mg) : FnOk P w K mg base CX0 1 T.f_Counted_begin T.d_Counted_begin ["self"] (sp_cbegin K T.C_Counted) := by
  refine T.F_Counted_begin.ok sc_Counted_begin (fun vs H Q E h => ?_) (fun cdv A outer s H vs Q E hr h => ?_)
  · obtain ⟨c, dx, p, f, xs, rfl, _⟩ := h
    rfl
  · obtain ⟨c, dx, p, f, xs, rfl, hc, hf, k⟩ := h
    refine ⟨_,
    (pss_one
      (ps_ret (pe_callB call_len_seq (by rfl) T.m_len (by decide +kernel) (pa_cons (pe_fld (pv 0) rfl) pa_nil)))), ?_⟩
    exact ⟨_, rfl, c, _, dx, _, _, rfl, hc, T.cl_Counted, T.n_Counted_firsts, cfl_f p f, f, _, rfl, .inl (.of hf), k⟩
def sp_cget (K : PySem.W.Frag) (C : Addr) (f : Str) : Sp := fun vs H Q _ => ∃ c dx p fa a xs, vs = [.ref c] ∧ H c = some (.ins C dx (cfl p fa)) ∧ (cfl p fa).lookup f = some (.ref a) ∧ H a = some (.lst xs) ∧ ∀ p, H p = none → Q (.ref p) (upd H p (.lst xs))
theorem ok_Counted_firsts (T : Tx K w mg) : FnOk P w K mg base CX0 1 T.f_Counted_firsts T.d_Counted_firsts ["self"] (sp_cget K T.C_Counted "_firsts") := by
  refine T.F_Counted_firsts.ok sc_Counted_firsts (fun vs H Q E h => ?_) (fun cdv A outer s H vs Q E hr h => ?_)
  · obtain ⟨c, dx, p, fa, a, xs, rfl, _⟩ := h
    rfl
  · obtain ⟨c, dx, p, fa, a, xs, rfl, hc, hl, ha, k⟩ := h
    refine ⟨_,
    (pss_one
      (ps_ret (pe_callTy call_list_of (by rfl) T.m_list (by decide +kernel) (pa_cons (pe_fld (pv 0) rfl) pa_nil)))), ?_⟩
    exact ⟨_, rfl, c, _, dx, _, _, rfl, hc, T.cl_Counted, T.n_Counted_firsts, hl, a, _, rfl, .inl (.of ha), k⟩
theorem ok_Counted_poly (T : Tx K w mg) : FnOk P w K mg base CX0 1 T.f_Counted_poly T.d_Counted_poly ["self"] (sp_cget K T.C_Counted "_poly") := by
  refine T.F_Counted_poly.ok sc_Counted_poly (fun vs H Q E h => ?_) (fun cdv A outer s H vs Q E hr h => ?_)
  · obtain ⟨c, dx, p, fa, a, xs, rfl, _⟩ := h
    rfl
  · obtain ⟨c, dx, p, fa, a, xs, rfl, hc, hl, ha, k⟩ := h
    refine ⟨_,
    (pss_one
      (ps_ret (pe_callTy call_list_of (by rfl) T.m_list (by decide +kernel) (pa_cons (pe_fld (pv 0) rfl) pa_nil)))), ?_⟩
    exact ⟨_, rfl, c, _, dx, _, _, rfl, hc, T.cl_Counted, T.n_Counted_poly, hl, a, _, rfl, .inl (.of ha), k⟩
/-- the number of a Counted at i -/
def numAt (F P : List Int) (i : Int) : Int := if i < F.length then F.getD i.toNat 0 else pol P i
def CnR (C : Addr) (H : Hp) (c : Addr) (F P : List Int) : Prop := ∃ dx p f, H c = some (.ins C dx (cfl p f)) ∧ H p = some (.lst (P.map V.int)) ∧ H f = some (.lst (F.map V.int))
def sp_cat (K : PySem.W.Frag) (C CE : Addr) : Sp := fun vs H Q E => ∃ (c : Addr) (i : Int) (F P : List Int), vs = [.ref c, .int i] ∧ CnR C H c F P ∧ RowOk P ∧ i.natAbs ≤ 2 ^ 119 ∧ ((0 ≤ i → ∀ H', Same H H' → Q (.int (numAt F P i)) H')) ∧
  (i < 0 → ∀ d H', H d = none → Same H H' → H' d = some (.xd [(("value" : Str), .int i)]) → E (.ref CE) (some d) H')
theorem ok_Counted_getitem (T : Tx K w mg) : FnOk P w K mg base (L2.CX P w) 4 T.f_Counted_getitem T.d_Counted_getitem ["self", "at"] (sp_cat K T.C_Counted T.C_InvalidNumber) := by
  refine T.F_Counted_getitem.okX sc_Counted_getitem (fun vs H Q E h => ?_) (fun cdv A outer s H vs Q E hr h => ?_)
  · obtain ⟨c, i, F, P, rfl, _⟩ := h
    rfl
  · obtain ⟨c, i, F, P, rfl, ⟨dx, p, f, hc, hp, hf⟩, ok, hi, k, ke⟩ := h
    refine ⟨_,
    (pss_cons
      (ps_if (pt_cmpR op_lt (pv 1) pe_int (nomark _))
        (pss_one
          (ps_raise rfl (takes_of rfl rfl rfl rfl) (pmk_oex T.ox_InvalidNumber T.ic_InvalidNumber T.ti (ok_PlanError_init T) (hr.mono (by decide)) T.b_PlanError_init .nil pass0 (by rfl) T.mg_InvalidNumber (pa_cons (pv 1) pa_nil))))
        pss_nil)
    (pss_cons
      (ps_if (pt_cmpR op_lt (pv 1) (pe_callB call_len_seq (by rfl) T.m_len (by decide +kernel) (pa_cons (pe_fld (pv 0) rfl) pa_nil)) (nomark _))
        (pss_one
          (ps_ret (pe_ix ix_list (pe_fld (pv 0) rfl) (pv 1) (fun _ _ => rfl))))
        pss_nil)
    (pss_one
      (ps_ret (pe_call (ok_value_at T) (hr.mono (by decide)) (by rfl) T.g_value_at T.F_value_at.kp T.b_value_at .nil pass0 (pa_cons (pe_fld (pv 0) rfl) (pa_cons (pv 1) pa_nil))))))), ?_⟩
    refine ⟨_, rfl, _, _, rfl, rfl, _, rfl, ite2 (fun c1 => ?_) (fun c1 => ?_)⟩
    · have i0 : i < 0 := of_decide_eq_true c1
      exact ⟨_, rfl, (by show 1 ≤ 1000; decide), raised (W := E) T.ox_InvalidNumber T.nv_InvalidNumber (ke i0)⟩
    · have i0 : 0 ≤ i := by
        have : ¬ i < 0 := fun z => c1 (decide_eq_true z)
        omega
      have k := k i0
      unfold numAt at k
      refine ⟨_, rfl, _, rfl, c, _, dx, _, _, rfl, hc, T.cl_Counted, T.n_Counted_firsts, cfl_f p f, f, _, rfl, .inl (.of hf), _, _, rfl, rfl, _, rfl, ?_⟩
      rw [List.length_map]
      obtain ⟨j, rfl⟩ := Int.eq_ofNat_of_zero_le i0
      refine ite2 (fun c2 => ?_) (fun c2 => ?_)
      · have h2 : (j : Int) < (F.length : Int) := of_decide_eq_true c2
        rw [if_pos h2, Int.toNat_natCast] at k
        have gj : (F.map V.int)[j]? = some (V.int (F.getD j 0)) := by
          rw [List.getElem?_map, List.getD_eq_getElem?_getD, List.getElem?_eq_getElem (by omega)]; rfl
        exact ⟨_, rfl, c, _, dx, _, _, rfl, hc, T.cl_Counted, T.n_Counted_firsts, cfl_f p f, _, rfl, f, _, _, _, rfl, rfl, .of hf, atI_nat gj, k H (Same.refl H)⟩
      · have h2 : ¬ (j : Int) < (F.length : Int) := fun z => c2 (decide_eq_true z)
        rw [if_neg h2] at k
        exact ⟨_, rfl, c, _, dx, _, _, rfl, hc, T.cl_Counted, T.n_Counted_poly, cfl_p p f, _, rfl, p, P, (j : Int), rfl, .of hp, ok.v hi, k⟩
/-! ### the law's deck -/
def Deck (H : Hp) (d g : Addr) : Prop := ∃ (gs : List Int) (a m : Int), H d = some (.lst [.ref g, .int a, .int m]) ∧ H g = some (.lst (gs.map V.int)) ∧ gs.length ≤ 63 ∧ (∀ x ∈ gs, 0 ≤ x) ∧ 0 ≤ a ∧ 0 ≤ m ∧ m < 2147483648
theorem Deck.ne {H : Hp} {d g : Addr} (h : Deck H d g) : d ≠ g := by
  obtain ⟨gs, a, m, h1, h2, _⟩ := h
  intro e
  subst e
  rw [h1] at h2
  cases gs with
  | nil => cases h2
  | cons x r => injection h2 with h2; injection h2 with h2; injection h2 with h2; cases h2
/-- all but the deck is as it was -/
def Kd (d g : Addr) (H H' : Hp) : Prop := ∀ b o, H b = some o → b ≠ d → b ≠ g → H' b = some o
theorem Kd.refl {d g : Addr} (H : Hp) : Kd d g H H := fun _ _ h _ _ => h
theorem Kd.trans {d g : Addr} {H H1 H2 : Hp} (a : Kd d g H H1) (b : Kd d g H1 H2) : Kd d g H H2 := fun x o h n1 n2 => b x o (a x o h n1 n2) n1 n2
theorem Same.kd {d g : Addr} {H H' : Hp} (s : Same H H') : Kd d g H H' := fun b o h _ _ => s b o h
def sp_deck (K : PySem.W.Frag) : Sp := fun vs H Q _ => ∃ (a : Addr) (ns : List Int), vs = [.ref a] ∧ SqL K H a (ns.map V.int) ∧ ns.length ≤ 63 ∧ ∀ d g H', Same H H' → Deck H' d g → Q (.ref d) H'
theorem ok_law_deck (T : Tx K w mg) : FnOk P w K mg base CX0 1 T.f_law_deck T.d_law_deck ["script"] (sp_deck K) := by
  refine T.F_law_deck.ok sc_law_deck (fun vs H Q E h => ?_) (fun cdv A outer s H vs Q E hr h => ?_)
  · obtain ⟨a, ns, rfl, _⟩ := h
    rfl
  · obtain ⟨a, ns, rfl, hS, hl, k⟩ := h
    refine ⟨_,
    (pss_cons
      (ps_set (i := 1) sc_law_deck.nd rfl (.inl rfl) (pe_op op_add pe_int (pe_op op_mod (pe_callB call_len_seq (by rfl) T.m_len (by decide +kernel) (pa_cons (pv 0) pa_nil)) pe_int)))
    (pss_cons
      (ps_for PassesOwn.never rfl (pi_list (pv 0)) (pg_name (i := 2) sc_law_deck.nd rfl (.inl rfl))
        (pss_one
          (ps_set (i := 1) sc_law_deck.nd rfl (.inl rfl) (pe_op op_mod (pe_op op_add (pe_op op_add (pe_op op_mul (pv 1) pe_int) (pe_op op_mod (pe_callTy call_int1 (by rfl) T.m_int (by decide +kernel) (pa_cons (pv 2) pa_nil)) pe_int)) pe_int) pe_int))))
    (pss_cons
      (ps_setLc (i := 3) (own := [("cell", 2)]) (g := gName 2) rfl sc_law_deck.nd rfl rfl (sw_true rfl rfl rfl (by decide +kernel)) (pi_list (pv 0)) (blkOk_by (N := ["script", "mixed", "cell", "great"]) (sc := defScope s_law_deck) (own := [("cell", 2)]) (by decide +kernel)) (fun _ _ _ _ _ => (pg_name (i := 2) sc_law_deck.nd rfl (.inl rfl))) (fun _ _ _ _ _ => (pts_one (pt_cmpR op_ge (pv 2) (pe_op op_pow pe_int pe_int) (nomark _)))) (fun _ _ _ _ _ => (pe_op op_sub (pe_callTy call_int1 (by rfl) T.m_int (by decide +kernel) (pa_cons (pv 2) pa_nil)) (pe_op op_pow pe_int pe_int))))
    (pss_one
      (ps_ret (pe_lst (pa_cons (pe_revL (pv 3)) (pa_cons pe_int (pa_cons (pe_op op_add (pe_op op_mod (pv 1) pe_int) pe_int) pa_nil))))))))), ?_⟩
    refine ⟨_, rfl, a, _, rfl, .inl hS, _, _, rfl, rfl, (by show (0 : Int) < 1009; decide), _, _, rfl, rfl, ?_⟩
    have m0 : 0 ≤ 1 + ((ns.map V.int).length : Int) % 1009 := by omega
    have m1 : 1 + ((ns.map V.int).length : Int) % 1009 < 2147483648 := by omega
    refine ⟨_, rfl, a, rfl, ⟨_, hS⟩, for_list (xs := ns.map V.int) (fun i σ H' => H' = H ∧ ∃ m x2, 0 ≤ m ∧ m < 2147483648 ∧ σ = [some (.ref a), some (.int m), x2, none]) ⟨rfl, _, none, m0, m1, rfl⟩ (fun i σ H' _ h => by rw [h.1]; exact hS) ?_ ?_⟩
    · rintro i v σ H1 hi ⟨rfl, m, x2, m0, m1, rfl⟩
      rw [List.getElem?_map] at hi
      obtain ⟨c, _, rfl⟩ := Option.map_eq_some_iff.mp hi
      refine ⟨_, rfl, _, _, rfl, rfl, .inl ⟨by omega, by omega⟩, _, rfl, .inl ⟨_, rfl, _, _, rfl, rfl, (by show (0 : Int) < 2147483563; decide), _, _, rfl, rfl, _, _, rfl, rfl, _, _, rfl, rfl, (by show (0 : Int) < 2147483399; decide), rfl, _, _, Int.emod_nonneg _ (by decide), Int.lt_trans (Int.emod_lt_of_pos _ (by decide)) (by decide), rfl⟩⟩
    · rintro σ H1 ⟨rfl, m, x2, m0, m1, rfl⟩
      refine ⟨_, rfl, a, rfl, ⟨_, hS⟩, fun D hD => ?_⟩
      refine lc_list (xs := ns.map V.int) (fun i H' => ∃ gs : List Int, gs.length ≤ i ∧ (∀ x ∈ gs, 0 ≤ x) ∧ H' D = some (.lst (gs.map V.int)) ∧ Same H1 H') ?_ ?_ ?_ ?_
      · exact ⟨[], Nat.le_refl _, (fun _ h => absurd h List.not_mem_nil), upd_same, same_upd hD⟩
      · rintro i H' _ ⟨gs, _, _, _, sm⟩
        exact sm.seq hS
      · rintro i v H' hi ⟨gs, gl, g0, eD, sm⟩
        have hil := (List.getElem?_eq_some_iff.mp hi).1
        rw [List.length_map] at hil
        rw [List.getElem?_map] at hi
        obtain ⟨c, _, rfl⟩ := Option.map_eq_some_iff.mp hi
        refine ⟨rfl, _, rfl, _, _, rfl, rfl, ⟨by decide, by decide, by decide⟩, _, _, rfl, rfl, _, rfl, ite2 (fun h => ?_) (fun _ => ⟨gs, by omega, g0, eD, sm⟩)⟩
        have h1 : (10 : Int) ^ (18 : Int).toNat ≤ c := of_decide_eq_true h
        refine ⟨_, rfl, .inl ⟨_, rfl, _, _, rfl, rfl, ⟨by decide, by decide, by decide⟩, _, _, rfl, rfl, gs.map V.int, eD, ?_, gs ++ [c - (10 : Int) ^ (18 : Int).toNat], ?_, ?_, ?_, fun b o e => ?_⟩⟩
        · rw [List.length_map]; exact small1000 (by omega)
        · rw [List.length_append]; exact Nat.succ_le_succ gl
        · intro x hx
          rcases List.mem_append.mp hx with h | h
          · exact g0 x h
          · have := List.mem_singleton.mp h
            omega
        · rw [upd_same, List.map_append]; rfl
        · rw [upd_ne (ne_of_none e hD)]; exact sm b o e
      · rintro H2 ⟨gs, gl, g0, eD, sm⟩
        rw [List.length_map] at gl
        refine ⟨_, rfl, D, _, rfl, .of eD, fun g hg => ⟨_, rfl, _, _, rfl, rfl, (by show (0 : Int) < 2147483398; decide), _, _, rfl, rfl, (by show 3 ≤ sizeLine; decide), fun d hd => ?_⟩⟩
        refine k d g _ ((sm.trans (same_upd hg)).trans (same_upd hd)) ⟨gs.reverse, 0, m % 2147483398 + 1, upd_same, ?_, by rw [List.length_reverse]; omega, fun x hx => g0 x (List.mem_reverse.mp hx), by decide, by omega, by omega⟩
        rw [upd_ne (ne_of_none upd_same hd), upd_same, List.map_reverse]
def sp_draw : Sp := fun vs H Q _ => ∃ (d g : Addr) (n : Int), vs = [.ref d, .int n] ∧ Deck H d g ∧ 0 < n ∧ n.natAbs.log2 < 9000 ∧ ∀ r H', 0 ≤ r → r < n → Deck H' d g → Kd d g H H' → Q (.int r) H'
theorem small_log {m : Int} (h : m.natAbs < 1024) : m.natAbs.log2 < 9000 := by
  have h1 : m.natAbs.log2 < 10 := PySem.Flt.log2_lt_of (by decide) h
  omega
theorem ok_law_draw (T : Tx K w mg) : FnOk P w K mg base CX0 1 T.f_law_draw T.d_law_draw ["deck", "many"] sp_draw := by
  refine T.F_law_draw.ok sc_law_draw (fun vs H Q E h => ?_) (fun cdv A outer s H vs Q E hr h => ?_)
  · obtain ⟨d, g, n, rfl, _⟩ := h
    rfl
  · obtain ⟨d, g, n, rfl, hD, hn, hl, k⟩ := h
    refine ⟨_,
    (pss_cons
      (ps_while PassesOwn.never (PW.pt (pw_and (pt_cmpR op_lt (pe_ix ix_list (pv 0) pe_int (fun _ _ => rfl)) pe_int (nomark _)) (pw_and1 (pt_cmpR op_gt (pe_callB call_len_seq (by rfl) T.m_len (by decide +kernel) (pa_cons (pe_ix ix_list (pv 0) pe_int (fun _ _ => rfl)) pa_nil)) pe_int (nomark _)))))
        (pss_one
          (ps_asg (pe_bm0 PySem.F.plainAttrs_list PySem.F.slot_list_pop PySem.F.type_list_pop mt_pop (pe_ix ix_list (pv 0) pe_int (fun _ _ => rfl))) (pg_sub (pv 0) pe_int set_list))))
    (pss_cons
      (ps_if (pt_cmpR op_gt (pe_ix ix_list (pv 0) pe_int (fun _ _ => rfl)) pe_int (nomark _))
        (pss_cons
          (ps_set (i := 2) sc_law_draw.nd rfl (.inl rfl) (pe_op op_mod (pe_callTy call_int1 (by rfl) T.m_int (by decide +kernel) (pa_cons (pe_ix ix_list (pv 0) pe_int (fun _ _ => rfl)) pa_nil)) (pv 1)))
        (pss_cons
          (ps_asg (pe_op op_fdivW (pe_ix ix_list (pv 0) pe_int (fun _ _ => rfl)) (pv 1)) (pg_sub (pv 0) pe_int set_list))
        (pss_one
          (ps_ret (pv 2)))))
        pss_nil)
    (pss_cons
      (ps_asg (pe_op op_mod (pe_op op_mul (pe_ix ix_list (pv 0) pe_int (fun _ _ => rfl)) pe_int) pe_int) (pg_sub (pv 0) pe_int set_list))
    (pss_one
      (ps_ret (pe_op op_mod (pe_op op_fdiv (pe_op op_add (pe_op op_mod (pe_op op_mul (pe_ix ix_list (pv 0) pe_int (fun _ _ => rfl)) (pe_ix ix_list (pv 0) pe_int (fun _ _ => rfl))) pe_int) (pe_op op_fdiv (pe_ix ix_list (pv 0) pe_int (fun _ _ => rfl)) pe_int)) pe_int) (pv 1))))))), ?_⟩
    have dg := hD.ne
    obtain ⟨gs, a, m, hd, hg, gl, g0, a0, m0, m1⟩ := hD
    refine ⟨fun t σ H' => ∃ (gs : List Int) (a : Int), gs.length = t ∧ σ = [some (.ref d), some (.int n), none] ∧ H' d = some (.lst [.ref g, .int a, .int m]) ∧ H' g = some (.lst (gs.map V.int)) ∧ gs.length ≤ 63 ∧ (∀ x ∈ gs, 0 ≤ x) ∧ 0 ≤ a ∧ Kd d g H H',
      ⟨_, gs, a, rfl, rfl, hd, hg, gl, g0, a0, Kd.refl H⟩, ?_⟩
    clear hd hg gl g0 a0 gs a
    rintro t σ H1 ⟨gs, a, tl, rfl, hd, hg, gl, g0, a0, kd⟩
    refine ⟨_, rfl, d, _, _, _, rfl, rfl, .of hd, atI_nat (j := 1) rfl, _, _, rfl, rfl, _, rfl, ite2 (fun c1 => ?_) (fun c1 => ?_)⟩
    · refine ⟨_, rfl, d, _, _, _, rfl, rfl, .of hd, atI_nat (j := 0) rfl, g, _, rfl, .inl (.of hg), _, _, rfl, rfl, _, rfl, ite2 (fun c2 => ?_) (fun c2 => ?_)⟩
      · have c3 : 0 < gs.length := by
          have : (0 : Int) < ((gs.map V.int).length : Int) := of_decide_eq_true c2
          rw [List.length_map] at this
          omega
        have hz : gs[gs.length - 1]? = some gs[gs.length - 1] := List.getElem?_eq_getElem (by omega)
        have hm := List.mem_of_getElem? hz
        generalize gs[gs.length - 1] = z at hz hm
        refine ⟨fun σ' H' => ∃ (gs : List Int) (a : Int), gs.length < t ∧ σ' = [some (.ref d), some (.int n), none] ∧ H' d = some (.lst [.ref g, .int a, .int m]) ∧ H' g = some (.lst (gs.map V.int)) ∧ gs.length ≤ 63 ∧ (∀ x ∈ gs, 0 ≤ x) ∧ 0 ≤ a ∧ Kd d g H H',
          fun σ' H' ⟨gs, a, h1, h2⟩ => ⟨_, h1, gs, a, rfl, h2⟩, ?_⟩
        refine ⟨_, rfl, d, _, _, _, rfl, rfl, .of hd, atI_nat (j := 0) rfl, .inl ⟨rfl, _, .of hg⟩, g, gs.map V.int, V.int z, rfl, rfl, hg, ?_, _, rfl, d, [.ref g, .int a, .int m], _, 1, rfl, rfl, ?_, rfl, gs.dropLast, z, ?_, rfl, ?_, ?_, ?_, ?_, g0 z hm, fun b o e n1 n2 => ?_⟩
        · rw [List.length_map, List.getElem?_map, hz]; rfl
        · rw [upd_ne dg]; exact hd
        · rw [List.length_dropLast]; omega
        · rw [upd_same]; rfl
        · rw [upd_ne dg.symm, upd_same, List.map_dropLast]
        · rw [List.length_dropLast]; omega
        · exact fun x hx => g0 x (List.dropLast_subset gs hx)
        · rw [upd_ne n1, upd_ne n2]; exact kd b o e n1 n2
      · refine ⟨_, rfl, d, _, _, _, rfl, rfl, .of hd, atI_nat (j := 1) rfl, _, _, rfl, rfl, _, rfl, iteND (by have : a < 2 := of_decide_eq_true c1; omega) ?_⟩
        have bm : -(2 ^ 64) < m ∧ m < 2 ^ 64 := ⟨by omega, by omega⟩
        have b0 : 0 ≤ m * 48271 % 2147483647 := Int.emod_nonneg _ (by decide)
        have b1 : m * 48271 % 2147483647 < 2147483647 := Int.emod_lt_of_pos _ (by decide)
        have bn : -(2 ^ 64) < m * 48271 % 2147483647 ∧ m * 48271 % 2147483647 < 2 ^ 64 := ⟨by omega, by omega⟩
        refine ⟨_, rfl, d, _, _, _, rfl, rfl, .of hd, atI_nat (j := 2) rfl, _, _, rfl, rfl, .inl bm, _, _, rfl, rfl, (by show (0 : Int) < 2147483647; decide), _, rfl, d, [.ref g, .int a, .int m], _, 2, rfl, rfl, hd, rfl, ?_⟩
        have e2 : (upd H1 d (.lst ([V.ref g, V.int a, V.int m].set 2 (V.int (m * 48271 % 2147483647))))) d = some (.lst [V.ref g, V.int a, V.int (m * 48271 % 2147483647)]) := upd_same
        refine ⟨_, rfl, d, _, _, _, rfl, rfl, .of e2, atI_nat (j := 2) rfl, _, rfl, d, _, _, _, rfl, rfl, .of e2, atI_nat (j := 2) rfl, _, _, rfl, rfl, .inl bn, _, _, rfl, rfl, (by show (0 : Int) < 2147483629; decide), _, rfl, d, _, _, _, rfl, rfl, .of e2, atI_nat (j := 2) rfl, _, _, rfl, rfl, ⟨by decide, by decide⟩, _, _, rfl, rfl, _, _, rfl, rfl, ⟨by decide, by decide⟩, _, rfl, _, _, rfl, rfl, hn, ?_⟩
        refine k _ _ (Int.emod_nonneg _ (by omega)) (Int.emod_lt_of_pos _ hn) ⟨gs, a, m * 48271 % 2147483647, e2, ?_, gl, g0, a0, b0, by omega⟩ fun b o e n1 n2 => ?_
        · rw [upd_ne dg.symm]; exact hg
        · rw [upd_ne n1]; exact kd b o e n1 n2
    · have c2 : ¬ a < 2 := fun z => c1 (decide_eq_true z)
      refine ⟨_, rfl, d, _, _, _, rfl, rfl, .of hd, atI_nat (j := 1) rfl, _, _, rfl, rfl, _, rfl, iteD (by omega) ?_⟩
      refine ⟨_, rfl, d, _, _, _, rfl, rfl, .of hd, atI_nat (j := 1) rfl, .inl ⟨_, rfl, _, rfl, _, _, rfl, rfl, hn, ?_⟩⟩
      refine ⟨_, rfl, d, _, _, _, rfl, rfl, .of hd, atI_nat (j := 1) rfl, _, rfl, _, _, rfl, rfl, ⟨hn, hl⟩, _, rfl, d, [.ref g, .int a, .int m], _, 1, rfl, rfl, hd, rfl, ?_⟩
      refine ⟨_, rfl, k _ _ (Int.emod_nonneg _ (by omega)) (Int.emod_lt_of_pos _ hn) ⟨gs, a / n, m, upd_same, ?_, gl, g0, Int.ediv_nonneg a0 (by omega), m0, m1⟩ fun b o e n1 n2 => ?_⟩
      · rw [upd_ne dg.symm]; exact hg
      · rw [upd_ne n1]; exact kd b o e n1 n2
theorem Deck.same {H H' : Hp} {d g : Addr} (s : Same H H') (h : Deck H d g) : Deck H' d g := by
  obtain ⟨gs, a, m, h1, h2, h3⟩ := h
  exact ⟨gs, a, m, s _ _ h1, s _ _ h2, h3⟩
theorem Deck.at {H : Hp} {d g : Addr} (h : Deck H d g) : (∃ o, H d = some o) ∧ ∃ o, H g = some o := by
  obtain ⟨gs, a, m, h1, h2, h3⟩ := h
  exact ⟨⟨_, h1⟩, _, h2⟩
theorem Deck.new {H : Hp} {d g p : Addr} (h : Deck H d g) (hp : H p = none) : p ≠ d ∧ p ≠ g := by
  obtain ⟨⟨o, h1⟩, u, h2⟩ := h.at
  exact ⟨(ne_of_none h1 hp).symm, (ne_of_none h2 hp).symm⟩
theorem Kd.free {d g p : Addr} {H H' : Hp} (k : Kd d g H H') (h : H' p = none) (n1 : p ≠ d) (n2 : p ≠ g) : H p = none := by
  cases q : H p with
  | none => rfl
  | some o =>
    rw [k p o q n1 n2] at h
    cases h
/-! ### rules, data, orders -/
/-- tuples stand -/
def Tk (H H' : Hp) : Prop := ∀ b xs, H b = some (.tup xs) → H' b = some (.tup xs)
theorem Same.tk {H H' : Hp} (s : Same H H') : Tk H H' := fun b _ h => s b _ h
theorem Kd.tk {d g : Addr} {H H' : Hp} (k : Kd d g H H') (hD : Deck H d g) : Tk H H' := fun b xs h => by
  obtain ⟨gs, a, m, h1, h2, _⟩ := hD
  exact k b _ h (ne_of h h1 (by intro z; cases z)) (ne_of h h2 (by intro z; cases z))
theorem Tk.trans {H H1 H2 : Hp} (a : Tk H H1) (b : Tk H1 H2) : Tk H H2 := fun x xs h => b x xs (a x xs h)
theorem tk_mut {H : Hp} {p : Addr} {xs : List V} {o : HO} (h : H p = some (.lst xs)) : Tk H (upd H p o) := fun b ys e => by
  rw [upd_ne (ne_of e h (by intro z; cases z))]
  exact e
structure Std (H0 H' : Hp) (d g : Addr) : Prop where
  dk : Deck H' d g
  kd : Kd d g H0 H'
theorem Std.refl {H : Hp} {d g : Addr} (h : Deck H d g) : Std H H d g := ⟨h, Kd.refl H⟩
theorem Std.draw {H0 H1 H2 : Hp} {d g : Addr} (s : Std H0 H1 d g) (h : Deck H2 d g) (k : Kd d g H1 H2) : Std H0 H2 d g := ⟨h, s.kd.trans k⟩
theorem Std.trans {H0 H1 H2 : Hp} {d g : Addr} (s : Std H0 H1 d g) (t : Std H1 H2 d g) : Std H0 H2 d g := ⟨t.dk, s.kd.trans t.kd⟩
theorem Std.new {H0 H1 : Hp} {d g p : Addr} {o : HO} (s : Std H0 H1 d g) (hp : H1 p = none) : Std H0 (upd H1 p o) d g := ⟨s.dk.same (same_upd hp), s.kd.trans (Same.kd (same_upd hp))⟩
theorem Std.free {H0 H1 : Hp} {d g p : Addr} (s : Std H0 H1 d g) (hp : H1 p = none) : H0 p = none := s.kd.free hp (s.dk.new hp).1 (s.dk.new hp).2
theorem Std.mut {H0 H1 : Hp} {d g p : Addr} {o : HO} (s : Std H0 H1 d g) (hp : H0 p = none) (n1 : p ≠ d) (n2 : p ≠ g) : Std H0 (upd H1 p o) d g := by
  refine ⟨?_, fun b u e h1 h2 => ?_⟩
  · obtain ⟨gs, a, m, h1, h2, h3⟩ := s.dk
    exact ⟨gs, a, m, by rw [upd_ne n1.symm]; exact h1, by rw [upd_ne n2.symm]; exact h2, h3⟩
  · rw [upd_ne (ne_of_none e hp)]
    exact s.kd b u e h1 h2
/-- a list apart from the deck -/
structure Lat (H : Hp) (d g p : Addr) (xs : List V) : Prop where
  at_ : H p = some (.lst xs)
  nd : p ≠ d
  ng : p ≠ g
theorem Lat.keep {H H' : Hp} {d g p : Addr} {xs : List V} (h : Lat H d g p xs) (k : Kd d g H H') : Lat H' d g p xs := ⟨k _ _ h.at_ h.nd h.ng, h.nd, h.ng⟩
theorem Lat.new {H : Hp} {d g p : Addr} {xs : List V} (h : Deck H d g) (hp : H p = none) : Lat (upd H p (.lst xs)) d g p xs := ⟨upd_same, (h.new hp).1, (h.new hp).2⟩
def sp_great : Sp := fun vs H Q _ => ∃ (d g : Addr) (n : Int), vs = [.ref d, .int n] ∧ Deck H d g ∧ 0 < n ∧ ∀ r H', 0 ≤ r → r < n → Deck H' d g → Kd d g H H' → Q (.int r) H'
theorem ok_law_great (T : Tx K w mg) : FnOk P w K mg base CX0 2 T.f_law_great T.d_law_great ["deck", "many"] sp_great := by
  refine T.F_law_great.ok sc_law_great (fun vs H Q E h => ?_) (fun cdv A outer s H vs Q E hr h => ?_)
  · obtain ⟨d, g, n, rfl, _⟩ := h
    rfl
  · obtain ⟨d, g, n, rfl, hD, hn, k⟩ := h
    refine ⟨_,
    (pss_cons
      (ps_set (i := 2) sc_law_great.nd rfl (.inl rfl) pe_int)
    (pss_cons
      (ps_for PassesOwn.never rfl (pi_range1 (by rfl) T.m_range (pa_cons pe_int pa_nil)) (pg_name (i := 3) sc_law_great.nd rfl (.inl rfl))
        (pss_one
          (ps_set (i := 2) sc_law_great.nd rfl (.inl rfl) (pe_op op_add (pe_op op_mul (pv 2) pe_int) (pe_call (ok_law_draw T) hr (by rfl) T.g_law_draw T.F_law_draw.kp T.b_law_draw .nil pass0 (pa_cons (pv 0) (pa_cons pe_int pa_nil)))))))
    (pss_one
      (ps_ret (pe_op op_mod (pv 2) (pv 1)))))), ?_⟩
    refine ⟨7, rfl, by decide, by decide, for_range (n := 7) (fun i σ H' => ∃ (x : Int) (y : Option V), σ = [some (.ref d), some (.int n), some (.int x), y] ∧ Deck H' d g ∧ Kd d g H H') ⟨0, none, rfl, hD, Kd.refl H⟩ ?_ ?_⟩
    · rintro i σ H1 _ ⟨x, y, rfl, hD1, k1⟩
      exact ⟨_, rfl, _, _, rfl, rfl, .inr ⟨by decide, by decide⟩, _, rfl, d, g, 2147483647, rfl, hD1, by decide, by decide +kernel, fun r H2 r0 r1 hD2 k2 => ⟨_, _, rfl, rfl, _, _, rfl, hD2, k1.trans k2⟩⟩
    · rintro σ H1 ⟨x, y, rfl, hD1, k1⟩
      exact ⟨_, rfl, _, rfl, _, _, rfl, rfl, hn, k _ _ (Int.emod_nonneg _ (by omega)) (Int.emod_lt_of_pos _ hn) hD1 k1⟩
def sp_order : Sp := fun vs H Q _ => ∃ (d g : Addr) (n : Nat), vs = [.ref d, .int n] ∧ Deck H d g ∧ n ≤ 1000 ∧
  ∀ (p : Addr) (os : List Int) (H' : Hp), Std H H' d g → H p = none → H' p = some (.lst (os.map V.int)) → p ≠ d → p ≠ g → (∀ o ∈ os, 0 ≤ o ∧ o < n) → os.length = n → os.Nodup → Q (.ref p) H'
theorem erase_map : ∀ (l : List Int) (j : Nat), (l.map V.int).eraseIdx j = (l.eraseIdx j).map V.int
  | [], _ => rfl
  | _ :: _, 0 => rfl
  | a :: r, j + 1 => by
    show V.int a :: (r.map V.int).eraseIdx j = V.int a :: (r.eraseIdx j).map V.int
    rw [erase_map r j]
def rng (n : Nat) : List Int := (List.range n).map Int.ofNat
theorem rng_v (n : Nat) : rgV 0 (n : Int) = (rng n).map V.int := by
  unfold rgV rng
  rw [List.map_map, show ((n : Int) - 0).toNat = n by omega]
  refine List.map_congr_left fun i _ => ?_
  show V.int (0 + (i : Int)) = V.int (i : Int)
  rw [Int.zero_add]
theorem rng_in {n : Nat} {o : Int} (h : o ∈ rng n) : 0 ≤ o ∧ o < n := by
  obtain ⟨i, hi, rfl⟩ := List.mem_map.mp h
  have := List.mem_range.mp hi
  have e : Int.ofNat i = (i : Int) := rfl
  omega
theorem rng_nd (n : Nat) : (rng n).Nodup := by
  unfold rng List.Nodup
  rw [List.pairwise_map]
  exact (List.nodup_range (n := n)).imp fun h z => h (Int.ofNat.inj z)
theorem rng_len (n : Nat) : (rng n).length = n := by
  unfold rng
  rw [List.length_map, List.length_range]
theorem log20 {m : Int} (h : m.natAbs < 1048576) : m.natAbs.log2 < 9000 := by
  have h1 : m.natAbs.log2 < 20 := PySem.Flt.log2_lt_of (by decide) h
  omega
theorem perm_erase : ∀ (l : List Int) (j : Nat) (h : j < l.length), l.Perm (l[j] :: l.eraseIdx j)
  | a :: r, 0, _ => List.Perm.refl _
  | a :: r, j + 1, h => by
    have ih := perm_erase r j (Nat.lt_of_succ_lt_succ h)
    exact (List.Perm.cons a ih).trans (List.Perm.swap _ _ _)
theorem ok_law_order (T : Tx K w mg) : FnOk P w K mg base CX0 2 T.f_law_order T.d_law_order ["deck", "many"] sp_order := by
  refine T.F_law_order.ok sc_law_order (fun vs H Q E h => ?_) (fun cdv A outer s H vs Q E hr h => ?_)
  · obtain ⟨d, g, n, rfl, _⟩ := h
    rfl
  · obtain ⟨d, g, n, rfl, hD, hn, k⟩ := h
    refine ⟨_,
    (pss_cons
      (ps_set (i := 2) sc_law_order.nd rfl (.inr rfl) (pe_listRg rfl (by rfl) T.m_list (prg_1 (by rfl) T.m_range (pv 1))))
    (pss_one
      (ps_ret (pe_lc (own := [("k", 3)]) (g := gName 3) rfl sc_law_order.nd (pi_range1 (by rfl) T.m_range (pa_cons (pv 1) pa_nil)) (blkOk_by (N := ["deck", "many", "left", "k"]) (sc := defScope s_law_order) (own := [("k", 3)]) (by decide +kernel)) (fun _ _ _ _ _ => (pg_name (i := 3) sc_law_order.nd rfl (.inl rfl))) (fun _ _ _ _ _ => pts_nil) (fun _ _ _ _ _ => (pe_bmK (K := K) rfl PySem.F.plainAttrs_list PySem.F.slot_list_pop PySem.F.type_list_pop mt_popAt (pv 2) (pa_cons (pe_call (ok_law_draw T) hr (by rfl) T.g_law_draw T.F_law_draw.kp T.b_law_draw .nil pass0 (pa_cons (pv 0) (pa_cons (pe_callB (id := "len") (r := rLen K) call_len_seq (by rfl) T.m_len (by decide +kernel) (pa_cons (pv 2) pa_nil)) pa_nil))) pa_nil))))))), ?_⟩
    refine ⟨_, rfl, _, rfl, ?_, fun L hL => ?_⟩
    · exact RgOk.of_le (by omega) (by omega) (by omega) (by omega)
    rw [rng_v]
    have dL := hD.new hL
    have s1 : Std H (upd H L (.lst ((rng n).map V.int))) d g := (Std.refl hD).new hL
    have e1 : (upd H L (.lst ((rng n).map V.int))) L = some (.lst ((rng n).map V.int)) := upd_same
    generalize upd H L (.lst ((rng n).map V.int)) = H1 at s1 e1
    refine ⟨_, rfl, _, rfl, by omega, by omega, fun D hDn => ?_⟩
    have dD := s1.dk.new hDn
    have LD : L ≠ D := ne_of_none e1 hDn
    have fD := s1.free hDn
    refine lc_range (lo := 0) (n := ((n : Int)).toNat) (fun i H' => ∃ os ls : List Int, Std H H' d g ∧ H' L = some (.lst (ls.map V.int)) ∧ H' D = some (.lst (os.map V.int)) ∧ (os ++ ls).Nodup ∧ (∀ o ∈ os ++ ls, 0 ≤ o ∧ o < n) ∧ os.length = i ∧ ls.length + i = n) ?_ ?_ ?_
    · exact ⟨[], rng n, s1.new hDn, by rw [upd_ne LD]; exact e1, upd_same, rng_nd n, fun o ho => rng_in ho, rfl, rng_len n⟩
    · rintro i H2 hi ⟨os, ls, s2, eL, eD, nd, hin, ol, ll⟩
      have hi2 : i < n := by
        have : i < ((n : Int)).toNat := hi
        omega
      refine ⟨rfl, _, rfl, .inl ⟨rfl, _, .of eL⟩, _, rfl, _, rfl, L, _, rfl, .inl (.of eL), d, g, _, rfl, s2.dk, ?_, ?_, fun r H3 r0 r1 hD3 k3 => ?_⟩
      · show (0 : Int) < ((ls.map V.int).length : Int)
        rw [List.length_map]; omega
      · refine log20 ?_
        show (((ls.map V.int).length : Nat) : Int).natAbs < 1048576
        rw [List.length_map]; omega
      have r2 : r < ((ls.map V.int).length : Int) := r1
      rw [List.length_map] at r2
      obtain ⟨j, rfl⟩ := Int.eq_ofNat_of_zero_le r0
      have hj : j < ls.length := by omega
      have s3 := s2.draw hD3 k3
      have eL3 := k3 _ _ eL dL.1 dL.2
      have eD3 := k3 _ _ eD dD.1 dD.2
      have pm : (os ++ ls).Perm ((os ++ [ls[j]]) ++ ls.eraseIdx j) := by
        rw [List.append_assoc]
        exact List.Perm.append_left os (perm_erase ls j hj)
      refine ⟨L, ls.map V.int, j, j, V.int ls[j], rfl, rfl, eL3, by omega, by omega, (ixN_seq (ixN_nat (by rw [List.length_map]; exact hj))).1, by rw [List.getElem?_map, List.getElem?_eq_getElem hj]; rfl, os.map V.int, ?_, ?_, os ++ [ls[j]], ls.eraseIdx j, (s3.mut hL dL.1 dL.2).mut fD dD.1 dD.2, ?_, ?_, pm.nodup_iff.mp nd, fun o ho => hin o (pm.mem_iff.mpr ho), ?_, ?_⟩
      · rw [upd_ne LD.symm]; exact eD3
      · rw [List.length_map, ol]; exact small1000 (by omega)
      · rw [upd_ne LD, upd_same, erase_map]
      · rw [upd_same, List.map_append]; rfl
      · rw [List.length_append, ol]; rfl
      · rw [List.length_eraseIdx_of_lt hj]; omega
    · rintro H2 ⟨os, ls, s2, eL, eD, nd, hin, ol, ll⟩
      exact k D os H2 s2 fD eD dD.1 dD.2 (fun o ho => hin o (List.mem_append_left _ ho)) (by rw [ol]; omega) (List.nodup_append.mp nd).1
theorem ok_law_value (T : Tx K w mg) : FnOk P w K mg base CX0 1 T.f_law_value T.d_law_value ["row", "at"] (sp_value K) := by
  refine T.F_law_value.ok sc_law_value (fun vs H Q E h => ?_) (fun cdv A outer s H vs Q E hr h => ?_)
  · obtain ⟨p, row, n, rfl, _⟩ := h
    rfl
  · obtain ⟨p, row, n, rfl, hS, hv, k⟩ := h
    refine ⟨_,
    (pss_cons
      (ps_set (i := 2) sc_law_value.nd rfl (.inl rfl) pe_int)
    (pss_cons
      (ps_set (i := 3) sc_law_value.nd rfl (.inl rfl) pe_int)
    (pss_cons
      (ps_for PassesOwn.never rfl (pi_enum (by rfl) T.m_enumerate (pa_cons (pv 0) pa_nil)) (pg_tup (by rfl) (pgs_cons (pg_name (i := 4) sc_law_value.nd rfl (.inl rfl)) (pgs_cons (pg_name (i := 5) sc_law_value.nd rfl (.inl rfl)) pgs_nil)))
        (pss_cons
          (ps_set (i := 2) sc_law_value.nd rfl (.inl rfl) (pe_op op_add (pv 2) (pe_op op_mulW (pv 5) (pv 3))))
        (pss_one
          (ps_set (i := 3) sc_law_value.nd rfl (.inl rfl) (pe_op op_fdivW (pe_op op_mulW (pv 3) (pe_op op_sub (pv 1) (pv 4))) (pe_op op_add (pv 4) pe_int))))))
    (pss_one
      (ps_ret (pv 2)))))), ?_⟩
    refine ⟨_, rfl, p, _, rfl, hS, for_enum (xs := row.map V.int) (fun i σ H' => Same H H' ∧ ∃ x4 x5, σ = [some (.ref p), some (.int n), some (.int (pol (row.take i) n)), some (.int (W n i)), x4, x5]) ?_ ?_ ?_ ?_⟩
    · exact ⟨Same.refl H, none, none, rfl⟩
    · rintro i σ H' _ ⟨sm, _⟩
      exact sm.seq hS
    · rintro i x σ H1 U hi ⟨sm, x4, x5, rfl⟩ hU
      rw [List.getElem?_map] at hi
      obtain ⟨a, ha, rfl⟩ := Option.map_eq_some_iff.mp hi
      obtain ⟨c1, c2, c3⟩ := hv.ops ha
      rw [Int.zero_add] at c2 c3
      refine ⟨U, _, rfl, .of upd_same, rfl, _, _, rfl, _, _, rfl, rfl, _, rfl, _, rfl, _, rfl, _, _, rfl, rfl, c1, _, _, rfl, rfl, ?_⟩
      refine ⟨_, rfl, _, rfl, _, rfl, _, _, rfl, rfl, _, _, rfl, rfl, c2, _, rfl, _, _, rfl, rfl, _, _, rfl, rfl, c3, ?_⟩
      refine ⟨sm.trans (same_upd hU), some (V.int (i : Nat)), some (V.int a), ?_⟩
      rw [pol_take ha, ← W_div]
      rfl
    · rintro σ H1 ⟨sm, x4, x5, rfl⟩
      rw [List.length_map, List.take_of_length_le (Nat.le_refl _)]
      exact ⟨_, rfl, k H1 sm⟩
/-! ### the law's lists -/
theorem pickI {ms : List Int} {w : Int} (h0 : 0 ≤ w) (h1 : w < ms.length) : ∃ m, m ∈ ms ∧ (ms.map V.int)[w.toNat]? = some (V.int m) := by
  have h : w.toNat < ms.length := by omega
  exact ⟨ms[w.toNat], List.getElem_mem h, by rw [List.getElem?_map, List.getElem?_eq_getElem h]; rfl⟩
theorem wm {i j : Int} (h1 : i.natAbs < 2 ^ 1000) (h2 : j.natAbs < 2 ^ 1000) : CMulW i j := wide_mul h1 h2 (by decide) (by decide) (by decide)
def sp_llist : Sp := fun vs H Q _ => ∃ (d g : Addr) (m : Int), vs = [.ref d, .int m] ∧ Deck H d g ∧ 0 ≤ m ∧ m ≤ 100 ∧
  ∀ (p : Addr) (r : List Int) (H' : Hp), Std H H' d g → H p = none → Lat H' d g p (r.map V.int) → Sz 700 r → (r.length : Int) ≤ m → Q (.ref p) H'
theorem ok_law_list (T : Tx K w mg) : FnOk P w K mg base CX0 3 T.f_law_list T.d_law_list ["deck", "most"] sp_llist := by
  refine T.F_law_list.ok sc_law_list (fun vs H Q E h => ?_) (fun cdv A outer s H vs Q E hr h => ?_)
  · obtain ⟨d, g, m, rfl, _⟩ := h
    rfl
  · obtain ⟨d, g, m, rfl, hD, m0, m1, k⟩ := h
    refine ⟨_,
    (pss_cons
      (ps_set (i := 2) sc_law_list.nd rfl (.inl rfl) (pe_ix ix_list (pe_lst (pa_cons pe_int (pa_cons pe_int (pa_cons pe_int (pa_cons (pe_op op_pow pe_int pe_int) pa_nil))))) (pe_call (ok_law_draw T) (hr.mono (by decide)) (by rfl) T.g_law_draw T.F_law_draw.kp T.b_law_draw .nil pass0 (pa_cons (pv 0) (pa_cons pe_int pa_nil))) (fun _ _ => rfl)))
    (pss_cons
      (ps_set (i := 3) sc_law_list.nd rfl (.inl rfl) (pe_ix ix_list (pe_lst (pa_cons pe_int (pa_cons (pe_op op_mulW (pe_op op_pow pe_int pe_int) (pe_op op_pow pe_int pe_int)) pa_nil))) (pe_callTy call_int1 (by rfl) T.m_int (by decide +kernel) (pa_cons (pe_cmpR op_eq (pe_call (ok_law_draw T) (hr.mono (by decide)) (by rfl) T.g_law_draw T.F_law_draw.kp T.b_law_draw .nil pass0 (pa_cons (pv 0) (pa_cons pe_int pa_nil))) pe_int (nomark _)) pa_nil)) (fun _ _ => rfl)))
    (pss_cons
      (ps_set (i := 4) sc_law_list.nd rfl (.inl rfl) (pe_lst pa_nil))
    (pss_cons
      (ps_for PassesOwn.never rfl (pi_range1 (by rfl) T.m_range (pa_cons (pe_call (ok_law_draw T) (hr.mono (by decide)) (by rfl) T.g_law_draw T.F_law_draw.kp T.b_law_draw .nil pass0 (pa_cons (pv 0) (pa_cons (pe_op op_add (pv 1) pe_int) pa_nil))) pa_nil)) (pg_name (i := 5) sc_law_list.nd rfl (.inl rfl))
        (pss_one
          (ps_expr (pe_bm PySem.F.plainAttrs_list PySem.F.slot_list_append PySem.F.type_list_append mt_append (pv 4) (pa_cons (pe_op op_mulW (pe_call (ok_law_great T) hr (by rfl) T.g_law_great T.F_law_great.kp T.b_law_great .nil pass0 (pa_cons (pv 0) (pa_cons (pv 2) pa_nil))) (pe_ix ix_list (pe_lst (pa_cons pe_int (pa_cons pe_int (pa_cons (pe_un un_neg pe_int) (pa_cons (pv 3) pa_nil))))) (pe_call (ok_law_draw T) (hr.mono (by decide)) (by rfl) T.g_law_draw T.F_law_draw.kp T.b_law_draw .nil pass0 (pa_cons (pv 0) (pa_cons pe_int pa_nil))) (fun _ _ => rfl))) pa_nil)))))
    (pss_one
      (ps_ret (pv 4))))))), ?_⟩
    have ht : ∀ t ∈ [2, 5, 1000, (10 : Int) ^ (60 : Int).toNat], 0 < t ∧ t.natAbs < 2 ^ 200 := by decide +kernel
    refine ⟨_, _, rfl, rfl, ⟨by decide, by decide, by decide⟩, (by show 4 ≤ sizeLine; decide), fun L hL => ?_⟩
    have s1 := (Std.refl hD).new (o := .lst ([2, 5, 1000, (10 : Int) ^ (60 : Int).toNat].map V.int)) hL
    have dL := hD.new hL
    refine ⟨_, rfl, d, g, 4, rfl, s1.dk, by decide, by decide +kernel, fun w0 H2 w00 w01 hD2 k2 => ?_⟩
    obtain ⟨t, hm, gm⟩ := pickI (ms := [2, 5, 1000, (10 : Int) ^ (60 : Int).toNat]) w00 w01
    obtain ⟨t0, t1⟩ := ht t hm
    have s2 := s1.draw hD2 k2
    refine ⟨L, _, _, V.int t, rfl, rfl, .of (k2 _ _ upd_same dL.1 dL.2), at_of (j := w0.toNat) (by omega) gm, ?_⟩
    clear hm gm ht dL hL s1 k2 w00 w01
    -- times
    refine ⟨_, _, rfl, rfl, ⟨by decide, by decide, by decide⟩, _, _, rfl, rfl, ⟨by decide, by decide, by decide⟩, _, _, rfl, rfl, wm (by decide +kernel) (by decide +kernel), (by show 2 ≤ sizeLine; decide), fun L hL => ?_⟩
    have s3 := s2.new (o := .lst [.int 1, .int ((10 : Int) ^ (60 : Int).toNat * (10 : Int) ^ (60 : Int).toNat)]) hL
    have dL := hD2.new hL
    refine ⟨_, rfl, d, g, 8, rfl, s3.dk, by decide, by decide +kernel, fun w1 H3 _ _ hD3 k3 => ⟨rfl, .inr ⟨_, rfl, ?_⟩⟩⟩
    have s4 := s3.draw hD3 k3
    obtain ⟨u, u1, gu⟩ : ∃ u : Int, u.natAbs < 2 ^ 400 ∧ atI [V.int 1, V.int ((10 : Int) ^ (60 : Int).toNat * (10 : Int) ^ (60 : Int).toNat)] (if decide (V.int w1 = V.int 0) = true then (1 : Int) else 0) = some (V.int u) := by
      cases decide (V.int w1 = V.int 0) with
      | true => exact ⟨(10 : Int) ^ (60 : Int).toNat * (10 : Int) ^ (60 : Int).toNat, by decide +kernel, rfl⟩
      | false => exact ⟨1, by decide +kernel, rfl⟩
    refine ⟨L, _, _, V.int u, rfl, rfl, .of (k3 _ _ upd_same dL.1 dL.2), gu, ?_⟩
    clear gu dL hL s3 s2 k3
    -- found
    refine ⟨Nat.zero_le _, fun D hDn => ?_⟩
    have fD := s4.free hDn
    have s5 := s4.new (o := .lst []) hDn
    have dD := hD3.new hDn
    refine ⟨_, rfl, _, rfl, _, _, rfl, rfl, d, g, m + 1, rfl, s5.dk, by omega, small_log (by omega), fun n H4 n0 n1 hD4 k4 => ⟨_, rfl, by omega, by omega, for_range (n := _) (fun i σ H' => ∃ (r : List Int) (x5 : Option V), Std H H' d g ∧ H' D = some (.lst (r.map V.int)) ∧ Sz 700 r ∧ r.length = i ∧ σ = [some (.ref d), some (.int m), some (.int t), some (.int u), some (.ref D), x5]) ?_ ?_ ?_⟩⟩
    · exact ⟨[], none, s5.draw hD4 k4, k4 _ _ upd_same dD.1 dD.2, (fun _ h => absurd h List.not_mem_nil), rfl, rfl⟩
    · rintro i σ H5 hi ⟨r, x5, s6, eD, sz, rl, rfl⟩
      refine ⟨_, rfl, .inl ⟨rfl, _, .of eD⟩, _, rfl, _, rfl, d, g, t, rfl, s6.dk, t0, fun v H6 v0 v1 hD6 k6 => ?_⟩
      have s7 := s6.draw hD6 k6
      have eD6 := k6 _ _ eD dD.1 dD.2
      refine ⟨_, rfl, _, rfl, (by show 4 ≤ sizeLine; decide), fun L hL => ?_⟩
      have s8 := s7.new (o := .lst ([0, 1, -1, u].map V.int)) hL
      have dL := hD6.new hL
      have eD7 := same_upd (o := .lst ([0, 1, -1, u].map V.int)) hL _ _ eD6
      refine ⟨_, rfl, d, g, 4, rfl, s8.dk, by decide, by decide +kernel, fun w2 H7 w20 w21 hD7 k7 => ?_⟩
      obtain ⟨x, hx, gx⟩ := pickI (ms := [0, 1, -1, u]) w20 w21
      have hx2 : x.natAbs < 2 ^ 400 := by
        have h1 : (1 : Nat) < 2 ^ 400 := by decide +kernel
        simp only [List.mem_cons, List.not_mem_nil, or_false] at hx
        rcases hx with rfl | rfl | rfl | rfl <;> omega
      have hv : v.natAbs < 2 ^ 200 := by omega
      have eD8 := k7 _ _ eD7 dD.1 dD.2
      refine ⟨L, _, _, V.int x, rfl, rfl, .of (k7 _ _ upd_same dL.1 dL.2), at_of (j := w2.toNat) (by omega) gx, _, _, rfl, rfl, wide_mul hv hx2 (by decide) (by decide) (by decide), D, _, _, rfl, rfl, eD8, ?_, r ++ [v * x], _, (s8.draw hD7 k7).mut fD dD.1 dD.2, ?_, ?_, ?_, rfl⟩
      · rw [List.length_map, rl]; exact small1000 (by omega)
      · rw [upd_same, List.map_append]; rfl
      · intro y hy
        rcases List.mem_append.mp hy with h | h
        · exact sz y h
        · rw [List.mem_singleton.mp h]
          have := wide_lt hv hx2
          exact Nat.lt_of_lt_of_le this (Nat.pow_le_pow_right (by decide) (by decide))
      · rw [List.length_append, rl]; rfl
    · rintro σ H5 ⟨r, x5, s6, eD, sz, rl, rfl⟩
      exact ⟨_, rfl, k D r H5 s6 fD ⟨eD, dD.1, dD.2⟩ sz (by omega)⟩
theorem rep0 (n : Nat) : (List.replicate n [V.int 0]).flatten = (List.replicate n (0 : Int)).map V.int := by
  induction n with
  | zero => rfl
  | succ n ih => rw [List.replicate_succ, List.flatten_cons, ih]; rfl
theorem Sz.rowOk {B : Nat} {r : List Int} (h : Sz B r) (h1 : 1 ≤ B) (h2 : B ≤ 800000) (h3 : r.length ≤ 200) : RowOk r := ⟨B, h, h1, h2, h3⟩
theorem Std.same {H0 H1 H2 : Hp} {d g : Addr} (s : Std H0 H1 d g) (t : Same H1 H2) : Std H0 H2 d g := ⟨s.dk.same t, s.kd.trans (Same.kd t)⟩
def sp_lists : Sp := fun vs H Q _ => ∃ (d g : Addr) (m : Int), vs = [.ref d, .int m] ∧ Deck H d g ∧ 2 ≤ m ∧ m ≤ 60 ∧
  ∀ (u p q : Addr) (hs r : List Int) (H' : Hp), Std H H' d g → H p = none → H q = none → H' u = some (.tup [.ref p, .ref q]) → Lat H' d g p (hs.map V.int) → Lat H' d g q (r.map V.int) → Sz 2000 hs → Sz 700 r → hs.length ≤ 60 → r.length ≤ 60 → Q (.ref u) H'
theorem ok_law_lists (T : Tx K w mg) : FnOk P w K mg base CX0 4 T.f_law_lists T.d_law_lists ["deck", "most"] sp_lists := by
  refine T.F_law_lists.ok sc_law_lists (fun vs H Q E h => ?_) (fun cdv A outer s H vs Q E hr h => ?_)
  · obtain ⟨d, g, m, rfl, _⟩ := h
    rfl
  · obtain ⟨d, g, m, rfl, hD, m0, m1, k⟩ := h
    refine ⟨_,
    (pss_cons
      (ps_set (i := 2) sc_law_lists.nd rfl (.inl rfl) (pe_call (ok_law_list T) hr (by rfl) T.g_law_list T.F_law_list.kp T.b_law_list .nil pass0 (pa_cons (pv 0) (pa_cons (pe_ix ix_list (pe_lst (pa_cons pe_int (pa_cons (pv 1) pa_nil))) (pe_call (ok_law_draw T) (hr.mono (by decide)) (by rfl) T.g_law_draw T.F_law_draw.kp T.b_law_draw .nil pass0 (pa_cons (pv 0) (pa_cons pe_int pa_nil))) (fun _ _ => rfl)) pa_nil))))
    (pss_cons
      (ps_set (i := 3) sc_law_lists.nd rfl (.inr rfl) (pe_call (ok_law_list T) hr (by rfl) T.g_law_list T.F_law_list.kp T.b_law_list .nil pass0 (pa_cons (pv 0) (pa_cons (pe_ix ix_list (pe_lst (pa_cons pe_int (pa_cons (pv 1) pa_nil))) (pe_callTy call_int1 (by rfl) T.m_int (by decide +kernel) (pa_cons (pe_cmpR op_eq (pe_call (ok_law_draw T) (hr.mono (by decide)) (by rfl) T.g_law_draw T.F_law_draw.kp T.b_law_draw .nil pass0 (pa_cons (pv 0) (pa_cons pe_int pa_nil))) pe_int (nomark _)) pa_nil)) (fun _ _ => rfl)) pa_nil))))
    (C8.pss_cut
      (ps_if (pt_cmpR op_eq (pe_call (ok_law_draw T) (hr.mono (by decide)) (by rfl) T.g_law_draw T.F_law_draw.kp T.b_law_draw .nil pass0 (pa_cons (pv 0) (pa_cons pe_int pa_nil))) pe_int (nomark _))
        (pss_cons
          (ps_set (i := 4) sc_law_lists.nd rfl (.inl rfl) (pe_call (ok_law_draw T) (hr.mono (by decide)) (by rfl) T.g_law_draw T.F_law_draw.kp T.b_law_draw .nil pass0 (pa_cons (pv 0) (pa_cons (pe_op op_add (pe_callB call_len_seq (by rfl) T.m_len (by decide +kernel) (pa_cons (pv 2) pa_nil)) pe_int) pa_nil))))
        (pss_one
          (ps_set (i := 2) sc_law_lists.nd rfl (.inl rfl) (pe_op op_cat (pe_slice sl_list (pv 2) po_none (po_some (pv 4))) (pe_lc (own := [("at", 5)]) (g := gName 5) rfl sc_law_lists.nd (pi_range2 (by rfl) T.m_range (pa_cons (pv 4) (pa_cons (pe_callB call_len_seq (by rfl) T.m_len (by decide +kernel) (pa_cons (pv 2) pa_nil)) pa_nil))) (blkOk_by (N := ["deck", "most", "heads", "row", "low", "at"]) (sc := defScope s_law_lists) (own := [("at", 5)]) (by decide +kernel)) (fun _ _ _ _ _ => (pg_name (i := 5) sc_law_lists.nd rfl (.inl rfl))) (fun _ _ _ _ _ => pts_nil) (fun _ _ _ _ _ => (pe_call (ok_law_value T) (hr.mono (by decide)) (by rfl) T.g_law_value T.F_law_value.kp T.b_law_value .nil pass0 (pa_cons (pv 3) (pa_cons (pv 5) pa_nil)))))))))
        pss_nil)
    (C8.pss_cut
      (ps_if (PW.pt (pw_and (pt_cmpR op_lt (pe_callB call_len_seq (by rfl) T.m_len (by decide +kernel) (pa_cons (pv 3) pa_nil)) (pv 1) (nomark _)) (pw_and1 (pt_cmpR op_eq (pe_call (ok_law_draw T) (hr.mono (by decide)) (by rfl) T.g_law_draw T.F_law_draw.kp T.b_law_draw .nil pass0 (pa_cons (pv 0) (pa_cons pe_int pa_nil))) pe_int (nomark _)))))
        (pss_one
          (ps_set (i := 3) sc_law_lists.nd rfl (.inr rfl) (pe_op op_cat (pv 3) (pe_op op_rep (pe_lst (pa_cons pe_int pa_nil)) (pe_op op_add pe_int (pe_call (ok_law_draw T) (hr.mono (by decide)) (by rfl) T.g_law_draw T.F_law_draw.kp T.b_law_draw .nil pass0 (pa_cons (pv 0) (pa_cons (pe_op op_sub (pv 1) (pe_callB call_len_seq (by rfl) T.m_len (by decide +kernel) (pa_cons (pv 3) pa_nil))) pa_nil))))))))
        pss_nil)
    (pss_one
      (ps_ret (pe_tup (pa_cons (pv 2) (pa_cons (pv 3) pa_nil))))))))), ?_⟩
    refine ⟨_, rfl, _, rfl, (by show 2 ≤ sizeLine; decide), fun L hL => ?_⟩
    have s1 := (Std.refl hD).new (o := .lst ([2, m].map V.int)) hL
    have dL := hD.new hL
    refine ⟨_, rfl, d, g, 2, rfl, s1.dk, by decide, by decide +kernel, fun w0 H2 w00 w01 hD2 k2 => ?_⟩
    obtain ⟨x, hx, gx⟩ := pickI (ms := [2, m]) w00 w01
    have hx2 : 0 ≤ x ∧ x ≤ 60 := by
      simp only [List.mem_cons, List.not_mem_nil, or_false] at hx
      rcases hx with rfl | rfl <;> omega
    have s2 := s1.draw hD2 k2
    refine ⟨L, _, _, V.int x, rfl, rfl, .of (k2 _ _ upd_same dL.1 dL.2), at_of (j := w0.toNat) (by omega) gx, d, g, x, rfl, hD2, hx2.1, by omega, fun p hs H3 s3 fp lp szp lenp => ?_⟩
    have s13 := s2.trans s3
    have fp0 : H p = none := s2.free fp
    clear dL hL gx hx s3 k2 hD2 s1 w00 w01 fp
    -- row
    refine ⟨_, rfl, _, rfl, (by show 2 ≤ sizeLine; decide), fun L hL => ?_⟩
    have s4 := s13.new (o := .lst ([3, m].map V.int)) hL
    have dL := s13.dk.new hL
    refine ⟨_, rfl, d, g, 3, rfl, s4.dk, by decide, by decide +kernel, fun w1 H4 _ _ hD4 k4 => ⟨rfl, .inr ⟨_, rfl, ?_⟩⟩⟩
    have s5 := s4.draw hD4 k4
    have lp5 := (lp.keep (Same.kd (same_upd (o := .lst ([3, m].map V.int)) hL))).keep k4
    obtain ⟨y, y1, gy⟩ : ∃ y : Int, (0 ≤ y ∧ y ≤ 60) ∧ atI ([3, m].map V.int) (if decide (V.int w1 = V.int 0) = true then (1 : Int) else 0) = some (V.int y) := by
      cases decide (V.int w1 = V.int 0) with
      | true => exact ⟨m, by omega, rfl⟩
      | false => exact ⟨3, by omega, rfl⟩
    refine ⟨L, _, _, V.int y, rfl, rfl, .of (k4 _ _ upd_same dL.1 dL.2), gy, d, g, y, rfl, hD4, y1.1, by omega, fun q r H5 s6 fq lq szq lenq => ?_⟩
    have s15 := s5.trans s6
    have lp6 := lp5.keep s6.kd
    have fq0 : H q = none := s5.free fq
    have r60 : r.length ≤ 60 := by omega
    have h60 : hs.length ≤ 60 := by omega
    have szp2 : Sz 2000 hs := szp.mono (by decide)
    clear dL hL gy k4 hD4 s4 s13 s5 s6 lp lp5 s2 fq szp lenp lenq
    -- heads told by the row from some place on
    refine ⟨fun σ H' => ∃ (p : Addr) (hs : List Int) (x4 x5 : Option V), Std H H' d g ∧ H p = none ∧ Lat H' d g p (hs.map V.int) ∧ Lat H' d g q (r.map V.int) ∧ Sz 2000 hs ∧ hs.length ≤ 60 ∧ σ = [some (.ref d), some (.int m), some (.ref p), some (.ref q), x4, x5],
      ⟨_, rfl, d, g, 2, rfl, s15.dk, by decide, by decide +kernel, fun w2 H6 _ _ hD6 k6 => ⟨rfl, _, rfl, ite2 (fun _ => ?_) (fun _ => ?_)⟩⟩, ?_⟩
    · have s16 := s15.draw hD6 k6
      have lp7 := lp6.keep k6
      have lq7 := lq.keep k6
      refine ⟨_, rfl, _, rfl, p, _, rfl, .inl (.of lp7.at_), _, _, rfl, rfl, d, g, _, rfl, hD6, ?_, ?_, fun lo H7 lo0 lo1 hD7 k7 => ?_⟩
      · show (0 : Int) < ((hs.map V.int).length : Int) + 1
        omega
      · exact small_log (by show (((hs.map V.int).length : Int) + 1).natAbs < 1024; rw [List.length_map]; omega)
      have lo2 : lo < ((hs.map V.int).length : Int) + 1 := lo1
      rw [List.length_map] at lo2
      obtain ⟨lo, rfl⟩ := Int.eq_ofNat_of_zero_le lo0
      have s17 := s16.draw hD7 k7
      have lp8 := lp7.keep k7
      have lq8 := lq7.keep k7
      refine ⟨_, rfl, _, rfl, _, rfl, p, _, rfl, .of lp8.at_, fun S hS => ?_⟩
      rw [map_take_int]
      have sS := same_upd (o := .lst ((hs.take lo).map V.int)) hS
      have eS := upd_same (H := H7) (a := S) (o := .lst ((hs.take lo).map V.int))
      generalize upd H7 S (.lst ((hs.take lo).map V.int)) = H8 at sS eS ⊢
      refine ⟨_, rfl, _, rfl, p, _, rfl, .inl (.of (sS _ _ lp8.at_)), _, _, rfl, ⟨by omega, by omega, by omega, by rw [List.length_map]; omega⟩, fun D hDn => ?_⟩
      rw [List.length_map]
      refine lc_range (lo := (lo : Int)) (n := _) (fun i H' => Same H8 H' ∧ H' D = some (.lst (((List.range i).map fun (j : Nat) => pol r ((lo : Int) + (j : Int))).map V.int))) ⟨same_upd hDn, upd_same⟩ ?_ ?_
      · rintro i H9 hi ⟨s9, e9⟩
        have rok : RowOk r := szq.rowOk (by decide) (by decide) (by omega)
        refine ⟨rfl, _, rfl, _, rfl, q, r, _, rfl, .of (s9 _ _ (sS _ _ lq8.at_)), rok.small (by omega), fun H10 s10 => ⟨_, s10 _ _ e9, ?_, fun b o e => ?_, ?_⟩⟩
        · rw [List.length_map, List.length_map, List.length_range]; exact small1000 (by omega)
        · rw [upd_ne (ne_of_none e hDn)]
          exact s10 b o (s9 b o e)
        · rw [upd_same, List.range_succ, List.map_append, List.map_append]; rfl
      · rintro H9 ⟨s9, e9⟩
        have s8 := (s17.same sS).same s9
        have hc : hs.length - lo = (((hs.length : Nat) : Int) - (lo : Int)).toNat := by omega
        refine ⟨S, D, _, _, rfl, rfl, s9 _ _ eS, e9, ?_, fun N hN => ?_⟩
        · rw [List.length_map, List.length_map, List.length_map, List.length_range, List.length_take]; exact Nat.le_of_lt (small1000 (by omega))
        have dN := s8.dk.new hN
        have sN := same_upd (o := .lst ((hs.take lo).map V.int ++ ((List.range (((hs.length : Nat) : Int) - (lo : Int)).toNat).map fun (j : Nat) => pol r ((lo : Int) + (j : Int))).map V.int)) hN
        refine ⟨N, hs.take lo ++ (List.range (((hs.length : Nat) : Int) - (lo : Int)).toNat).map fun (j : Nat) => pol r ((lo : Int) + (j : Int)), _, _, s8.new hN, s8.free hN, ⟨by rw [upd_same, List.map_append], dN.1, dN.2⟩, ⟨sN _ _ (s9 _ _ (sS _ _ lq8.at_)), lq8.nd, lq8.ng⟩, ?_, ?_, rfl⟩
        · intro y hy
          rcases List.mem_append.mp hy with h | h
          · exact szp2 y (List.mem_of_mem_take h)
          · obtain ⟨j, hj, rfl⟩ := List.mem_map.mp h
            rw [List.mem_range] at hj
            have := pol_size (b := 8) szq (n := (lo : Int) + (j : Int)) (by show _ ≤ 256; omega)
            exact Nat.lt_of_lt_of_le this (Nat.pow_le_pow_right (by decide) (by omega))
        · rw [List.length_append, List.length_map, List.length_range, List.length_take]; omega
    · exact ⟨p, hs, none, none, s15.draw hD6 k6, fp0, lp6.keep k6, lq.keep k6, szp2, h60, rfl⟩
    clear lp6 lq s15 szp2 h60 fp0
    clear hs p
    rintro σ H6 ⟨p, hs, x4, x5, s6, fp, lp, lq, szp, h60, rfl⟩
    -- zeros behind the row
    refine ⟨fun σ H' => ∃ (q : Addr) (r : List Int), Std H H' d g ∧ H q = none ∧ Lat H' d g p (hs.map V.int) ∧ Lat H' d g q (r.map V.int) ∧ Sz 700 r ∧ r.length ≤ 60 ∧ σ = [some (.ref d), some (.int m), some (.ref p), some (.ref q), x4, x5],
      ⟨_, rfl, q, _, rfl, .inl (.of lq.at_), _, rfl, _, _, rfl, rfl, _, rfl, ite2 (fun c1 => ⟨_, rfl, d, g, 3, rfl, s6.dk, by decide, by decide +kernel, fun w3 H7 _ _ hD7 k7 => ⟨rfl, _, rfl, ite2 (fun _ => ?_) (fun _ => ?_)⟩⟩) (fun _ => ?_)⟩, ?_⟩
    · have c2 : ((r.map V.int).length : Int) < m := of_decide_eq_true c1
      rw [List.length_map] at c2
      have s7 := s6.draw hD7 k7
      have lp7 := lp.keep k7
      have lq7 := lq.keep k7
      refine ⟨_, rfl, (by show 1 ≤ sizeLine; decide), fun Z hZ => ?_⟩
      have sZ := same_upd (o := .lst [.int 0]) hZ
      have dZ := hD7.new hZ
      refine ⟨_, rfl, _, rfl, _, rfl, q, _, rfl, .inl (.of (sZ _ _ lq7.at_)), _, _, rfl, rfl, d, g, _, rfl, hD7.same sZ, ?_, ?_, fun e H8 e0 e1 hD8 k8 => ⟨_, _, rfl, rfl, Z, 1 + e, [.int 0], rfl, rfl, k8 _ _ upd_same dZ.1 dZ.2, ?_, ?_, ?_, fun Y hY => ?_⟩⟩
      · show (0 : Int) < m - ((r.map V.int).length : Int)
        rw [List.length_map]; omega
      · exact small_log (by show (m - ((r.map V.int).length : Int)).natAbs < 1024; rw [List.length_map]; omega)
      · omega
      · have : e < m - ((r.map V.int).length : Int) := e1
        rw [List.length_map] at this
        omega
      · have : e < m - ((r.map V.int).length : Int) := e1
        rw [List.length_map] at this
        show 1 * (1 + e).toNat ≤ sizeLine
        rw [Nat.one_mul]
        exact Nat.le_of_lt (small1000 (by omega))
      have e2 : e < m - (r.length : Int) := by
        have : e < m - ((r.map V.int).length : Int) := e1
        rw [List.length_map] at this
        exact this
      rw [rep0]
      have s8 := (s7.same sZ).draw hD8 k8
      have lq8 := (lq7.keep (Same.kd sZ)).keep k8
      have lp8 := (lp7.keep (Same.kd sZ)).keep k8
      have sY := same_upd (o := .lst ((List.replicate (1 + e).toNat (0 : Int)).map V.int)) hY
      refine ⟨q, Y, _, _, rfl, rfl, sY _ _ lq8.at_, upd_same, ?_, fun N hN => ?_⟩
      · rw [List.length_map, List.length_map, List.length_replicate]; exact Nat.le_of_lt (small1000 (by omega))
      have s9 := s8.same sY
      have dN := s9.dk.new hN
      refine ⟨N, r ++ List.replicate (1 + e).toNat 0, s9.new hN, s9.free hN, (lp8.keep (Same.kd sY)).keep (Same.kd (same_upd hN)), ⟨by rw [upd_same, ← List.map_append], dN.1, dN.2⟩, ?_, ?_, rfl⟩
      · intro y hy
        rcases List.mem_append.mp hy with h | h
        · exact szq y h
        · rw [List.eq_of_mem_replicate h]; exact Nat.pow_pos (by decide)
      · rw [List.length_append, List.length_replicate]; omega
    · exact ⟨q, r, s6.draw hD7 k7, fq0, lp.keep k7, lq.keep k7, szq, r60, rfl⟩
    · exact ⟨q, r, s6, fq0, lp, lq, szq, r60, rfl⟩
    clear lp lq s6 szq r60 fq0
    clear r q
    rintro σ H7 ⟨q, r, s7, fq, lp, lq, szq, r60, rfl⟩
    refine ⟨_, rfl, _, rfl, (by show 2 ≤ sizeLine; decide), fun u hu => ?_⟩
    have su := same_upd (o := .tup [.ref p, .ref q]) hu
    exact k u p q hs r _ (s7.new hu) fp fq upd_same (lp.keep (Same.kd su)) (lq.keep (Same.kd su)) szp szq h60 r60
theorem lbg_eq {h : List Int} {f : Int → Int} : ∀ {k i : Nat}, lbg h f k ≤ i → i < k → h.getD i 0 = f (i : Int)
  | 0, _, _, h2 => by omega
  | k + 1, i, h1, h2 => by
    unfold lbg at h1
    by_cases c : h.getD k 0 = f (k : Int)
    · rw [if_pos c] at h1
      by_cases e : i = k
      · rw [e]; exact c
      · exact lbg_eq h1 (by omega)
    · rw [if_neg c] at h1
      omega
/-- the number at i that heads and row tell -/
def lawAt (hs r : List Int) (i : Int) : Int := if i < hs.length then hs.getD i.toNat 0 else pol r i
theorem pol_trimF (r : List Int) : pol (trim r) = pol r := funext fun n => pol_trim r n
theorem need_trim (hs r : List Int) : needL hs (trim r) = needL hs r := by unfold needL; rw [pol_trimF]
theorem numAt_need (hs r : List Int) {i : Int} (i0 : 0 ≤ i) : numAt (needL hs (trim r)) (trim r) i = lawAt hs r i := by
  rw [need_trim]
  obtain ⟨j, rfl⟩ := Int.eq_ofNat_of_zero_le i0
  have hle := lbg_le hs (pol r) hs.length
  have hl : (needL hs r).length = lbg hs (pol r) hs.length := by
    unfold needL
    rw [List.length_take]; omega
  unfold numAt lawAt
  rw [hl, Int.toNat_natCast, pol_trimF]
  by_cases c : (j : Int) < (lbg hs (pol r) hs.length : Nat)
  · rw [if_pos c, if_pos (by omega)]
    unfold needL
    rw [List.getD_eq_getElem?_getD, List.getD_eq_getElem?_getD, List.getElem?_take_of_lt (by omega)]
  · rw [if_neg c]
    by_cases c2 : (j : Int) < hs.length
    · rw [if_pos c2]
      exact (lbg_eq (h := hs) (f := pol r) (k := hs.length) (i := j) (by omega) (by omega)).symm
    · rw [if_neg c2]
def sp_needed (K : PySem.W.Frag) : Sp := fun vs H Q _ => ∃ (f p : Addr) (h r : List Int), vs = [.ref f, .ref p] ∧ H f = some (.lst (h.map V.int)) ∧ H p = some (.lst (r.map V.int)) ∧ h.length ≤ 900 ∧ RowOk r ∧ ∀ q H', H q = none → Same H H' → H' q = some (.lst ((needL h r).map V.int)) → Q (.ref q) H'
theorem ok_law_needed (T : Tx K w mg) : FnOk P w K mg base CX0 2 T.f_law_needed T.d_law_needed ["heads", "row"] (sp_needed K) := by
  refine T.F_law_needed.ok sc_law_needed (fun vs H Q E h => ?_) (fun cdv A outer s H vs Q E hr h => ?_)
  · obtain ⟨f, p, h, r, rfl, _⟩ := h
    rfl
  · obtain ⟨f, p, h, r, rfl, hf, hp, hl, ok, k⟩ := h
    refine ⟨_,
    (pss_cons
      (ps_set (i := 2) sc_law_needed.nd rfl (.inl rfl) (pe_callB call_len_seq (by rfl) T.m_len (by decide +kernel) (pa_cons (pv 0) pa_nil)))
    (pss_cons
      (ps_while PassesOwn.never (PW.pt (pw_and (pt_cmpR op_gt (pv 2) pe_int (nomark _)) (pw_and1 (pt_cmpR op_eq (pe_ix ix_list (pv 0) (pe_op op_sub (pv 2) pe_int) (fun _ _ => rfl)) (pe_call (ok_law_value T) hr (by rfl) T.g_law_value T.F_law_value.kp T.b_law_value .nil pass0 (pa_cons (pv 1) (pa_cons (pe_op op_sub (pv 2) pe_int) pa_nil))) (nomark _)))))
        (pss_one
          (ps_set (i := 2) sc_law_needed.nd rfl (.inl rfl) (pe_op op_sub (pv 2) pe_int))))
    (pss_one
      (ps_ret (pe_slice sl_list (pv 0) po_none (po_some (pv 2))))))), ?_⟩
    refine ⟨_, rfl, f, _, rfl, .inl (.of hf), ?_⟩
    rw [List.length_map]
    refine ⟨fun t σ H' => Same H H' ∧ t ≤ h.length ∧ lbg h (pol r) t = lbg h (pol r) h.length ∧ σ = [some (.ref f), some (.ref p), some (.int (t : Int))], ⟨h.length, Same.refl H, Nat.le_refl _, rfl, rfl⟩, ?_⟩
    rintro t σ H1 ⟨s1, ht, e, rfl⟩
    have fin : lbg h (pol r) h.length = t → ∀ H2, Same H H2 → ∀ q, H2 q = none → Q (.ref q) (upd H2 q (.lst ((h.take t).map V.int))) := fun e2 H2 s2 q hq => by
      refine k q _ (s2.free hq) (s2.trans (same_upd hq)) ?_
      rw [upd_same]
      unfold needL
      rw [e2]
    refine ⟨_, rfl, _, _, rfl, rfl, _, rfl, ite2 (fun c1 => ?_) (fun c1 => ?_)⟩
    · have t0 : (0 : Int) < (t : Int) := of_decide_eq_true c1
      obtain ⟨m, rfl⟩ : ∃ m, t = m + 1 := ⟨t - 1, by omega⟩
      have hm : m < h.length := by omega
      have ga : h[m]? = some (h.getD m 0) := by rw [List.getD_eq_getElem?_getD, List.getElem?_eq_getElem hm]; rfl
      have gv : (h.map V.int)[m]? = some (V.int (h.getD m 0)) := by rw [List.getElem?_map, ga]; rfl
      refine ⟨_, rfl, _, rfl, _, _, rfl, rfl, f, _, _, _, rfl, rfl, .of (s1 _ _ hf), at_of (j := m) (by omega) gv, _, rfl, _, rfl, _, _, rfl, rfl, p, r, (m : Int), (by show [V.ref p, V.int (((m + 1 : Nat) : Int) - 1)] = _; rw [show ((m + 1 : Nat) : Int) - 1 = (m : Int) by omega]), .of (s1 _ _ hp), ok.small (by omega), fun H2 s2 => ⟨rfl, _, rfl, ite2 (fun c2 => ?_) (fun c2 => ?_)⟩⟩
      · have z : h.getD m 0 = pol r (m : Int) := V.int.inj (of_decide_eq_true c2)
        refine ⟨fun σ' H' => Same H H' ∧ σ' = [some (.ref f), some (.ref p), some (.int (m : Int))], fun σ' H' ⟨h1, h2⟩ => ⟨m, Nat.lt_succ_self m, h1, by omega, by rw [← e]; exact (if_pos z).symm, h2⟩, ?_⟩
        refine ⟨_, rfl, _, _, rfl, rfl, s1.trans s2, ?_⟩
        show [some (V.ref f), some (V.ref p), some (V.int (((m + 1 : Nat) : Int) - 1))] = _
        rw [show ((m + 1 : Nat) : Int) - 1 = (m : Int) by omega]
      · have z : ¬ h.getD m 0 = pol r (m : Int) := fun z => c2 (decide_eq_true (congrArg V.int z))
        have e2 : lbg h (pol r) h.length = m + 1 := by rw [← e]; exact if_neg z
        refine ⟨_, rfl, _, rfl, _, rfl, f, _, rfl, .of (s2 _ _ (s1 _ _ hf)), fun q hq => ?_⟩
        rw [map_take_int]
        exact fin e2 _ (s1.trans s2) q hq
    · have t0 : t = 0 := by
        have : ¬ (0 : Int) < (t : Int) := fun z => c1 (decide_eq_true z)
        omega
      subst t0
      have e2 : lbg h (pol r) h.length = 0 := e.symm
      refine ⟨_, rfl, _, rfl, _, rfl, f, _, rfl, .of (s1 _ _ hf), fun q hq => ?_⟩
      rw [map_take_int]
      exact fin e2 _ s1 q hq
theorem ok_law_trimmed (T : Tx K w mg) : FnOk P w K mg base CX0 1 T.f_law_trimmed T.d_law_trimmed ["row"] (sp_trim K) := by
  refine T.F_law_trimmed.ok sc_law_trimmed (fun vs H Q E h => ?_) (fun cdv A outer s H vs Q E hr h => ?_)
  · obtain ⟨p, r, rfl, _⟩ := h
    rfl
  · obtain ⟨p, r, rfl, hS, hl, k⟩ := h
    refine ⟨_,
    (pss_cons
      (ps_set (i := 1) sc_law_trimmed.nd rfl (.inl rfl) (pe_callB call_len_seq (by rfl) T.m_len (by decide +kernel) (pa_cons (pv 0) pa_nil)))
    (pss_cons
      (ps_while PassesOwn.never (PW.pt (pw_and (pt_cmpR op_gt (pv 1) pe_int (nomark _)) (pw_and1 (pt_cmpR op_eq (pe_ix ix_list (pv 0) (pe_op op_sub (pv 1) pe_int) (fun _ _ => rfl)) pe_int (nomark _)))))
        (pss_one
          (ps_set (i := 1) sc_law_trimmed.nd rfl (.inl rfl) (pe_op op_sub (pv 1) pe_int))))
    (pss_one
      (ps_ret (pe_slice sl_list (pv 0) po_none (po_some (pv 1))))))), ?_⟩
    refine ⟨_, rfl, p, _, rfl, .inl hS, ?_⟩
    rw [List.length_map]
    refine ⟨fun t σ H' => H' = H ∧ t ≤ r.length ∧ trim (r.take t) = trim r ∧ σ = [some (.ref p), some (.int (t : Int))], ⟨r.length, rfl, Nat.le_refl _, by rw [List.take_length], rfl⟩, ?_⟩
    rintro t σ H1 ⟨rfl, ht, e, rfl⟩
    refine ⟨_, rfl, _, _, rfl, rfl, _, rfl, ite2 (fun c1 => ?_) (fun c1 => ?_)⟩
    · have t0 : (0 : Int) < (t : Int) := of_decide_eq_true c1
      obtain ⟨m, rfl⟩ : ∃ m, t = m + 1 := ⟨t - 1, by omega⟩
      have hm : m < r.length := by omega
      have ga : r[m]? = some r[m] := List.getElem?_eq_getElem hm
      have gv : (r.map V.int)[m]? = some (V.int r[m]) := by rw [List.getElem?_map, ga]; rfl
      refine ⟨_, rfl, _, rfl, _, _, rfl, rfl, p, _, _, _, rfl, rfl, hS, at_of (j := m) (by omega) gv, rfl, _, rfl, ite2 (fun c2 => ?_) (fun c2 => ?_)⟩
      · have z : r[m] = 0 := V.int.inj (of_decide_eq_true c2)
        refine ⟨fun σ' H' => H' = H1 ∧ σ' = [some (.ref p), some (.int (m : Int))], fun σ' H' ⟨h1, h2⟩ => ⟨m, Nat.lt_succ_self m, h1, by omega, trim_take hm (by rw [ga, z]) e, h2⟩, ?_⟩
        refine ⟨_, rfl, _, _, rfl, rfl, rfl, ?_⟩
        show [some (V.ref p), some (V.int (((m + 1 : Nat) : Int) - 1))] = _
        rw [show ((m + 1 : Nat) : Int) - 1 = (m : Int) by omega]
      · have z : r[m] ≠ 0 := fun z => c2 (decide_eq_true (congrArg V.int z))
        rw [trim_done hm ga z e] at k
        refine ⟨_, rfl, _, rfl, _, rfl, p, _, rfl, hS, fun q hq => ?_⟩
        rw [map_take_int]
        exact k q hq
    · have t0 : t = 0 := by
        have : ¬ (0 : Int) < (t : Int) := fun z => c1 (decide_eq_true z)
        omega
      subst t0
      have e2 : trim r = r.take 0 := by rw [← e]; rfl
      rw [e2] at k
      refine ⟨_, rfl, _, rfl, _, rfl, p, _, rfl, hS, fun q hq => ?_⟩
      rw [show cutV (r.map V.int) none (some ((0 : Nat) : Int)) = (r.take 0).map V.int from map_take_int r 0]
      exact k q hq
theorem iteEq {x : Bool} {A B : Prop} (h : x = true) (hB : B) : if (!x) = true then A else B := by
  rw [h]
  exact iteF hB
theorem eqvAll_ints : ∀ r s : List Int, PyData.eqvAll (r.map PyData.int) (s.map PyData.int) = decide (r = s)
  | [], [] => by simp [PyData.eqvAll]
  | [], _ :: _ => by simp [PyData.eqvAll]
  | _ :: _, [] => by simp [PyData.eqvAll]
  | x :: r, y :: s => by
    rw [List.map_cons, List.map_cons]
    show (x == y && PyData.eqvAll (r.map PyData.int) (s.map PyData.int)) = decide (x :: r = y :: s)
    rw [eqvAll_ints r s]
    by_cases c : x = y
    · by_cases d : r = s
      · simp [c, d]
      · simp [c, d]
    · simp [c]
theorem eqv_ints (r s : List Int) : PyData.eqv (.list (r.map PyData.int)) (.list (s.map PyData.int)) = decide (r = s) := eqvAll_ints r s
theorem kit_own {K : PySem.W.Frag} {C : Addr} {n : String} {ms : List String} {t : Value} {b : Bool} (hm : PySem.W.mroIn K C t = some b) (ht : PySem.W.typeIn K (.ref C) = some (.type "type")) (e : fastBuiltinMro n = some (ms.map Value.type)) : PySem.W.kitOne K (.type n) (.ref C) = some false := by
  have hc : (PySem.W.clsIn K C).isSome = true := by
    cases h : PySem.W.clsIn K C with
    | some _ => rfl
    | none =>
      unfold PySem.W.mroIn at hm
      rw [h] at hm
      cases hm
  unfold PySem.W.kitOne
  rw [if_neg (by simp)]
  show (if ((PySem.W.clsIn K C).isSome && PySem.W.typeIn K (.ref C) == some (.type "type")) = true then PySem.W.subIn K (.type n) (.ref C) else none) = some false
  rw [if_pos (by rw [hc, ht]; decide)]
  exact sub_builtin e
theorem kind_ty {K : PySem.W.Frag} {H : Hp} {C : Addr} {z : V} {t : Value} {b : Bool} (hz : Kind H z) (hm : PySem.W.mroIn K C t = some b) (ht : PySem.W.typeIn K (.ref C) = some (.type "type")) : ∃ tz, TyOf K H z tz ∧ PySem.W.kitOne K tz (.ref C) = some false := by
  rcases hz with rfl | ⟨i, rfl⟩ | ⟨x, rfl⟩ | ⟨a, xs, rfl, e⟩ | ⟨a, xs, rfl, e⟩
  · exact ⟨_, .non, kit_own (ms := ["NoneType", "object"]) hm ht (by decide +kernel)⟩
  · exact ⟨_, .int i, kit_own (ms := ["int", "object"]) hm ht (by decide +kernel)⟩
  · exact ⟨_, .str x, kit_own (ms := ["str", "object"]) hm ht (by decide +kernel)⟩
  · exact ⟨_, .lst e, kit_own (ms := ["list", "object"]) hm ht (by decide +kernel)⟩
  · exact ⟨_, .tup e, kit_own (ms := ["tuple", "object"]) hm ht (by decide +kernel)⟩
/-- a Counted: its object, its lists -/
def CnI (C : Addr) (H : Hp) (c : Addr) (F P : List Int) : Prop := ∃ dx p f, H c = some (.ins C dx (cfl p f)) ∧ H p = some (.lst (P.map V.int)) ∧ H f = some (.lst (F.map V.int))
def sp_ceq (K : PySem.W.Frag) (C : Addr) : Sp := fun vs H Q _ => ∃ (a : Addr) (z : V) (F U : List Int), vs = [.ref a, z] ∧ CnI C H a F U ∧
  ((Kind H z ∧ Q (.bl false) H) ∨ ∃ (b : Addr) (F2 P2 : List Int), z = .ref b ∧ CnI C H b F2 P2 ∧ Q (.bl (decide (F = F2) && decide (U = P2))) H)
theorem ok_Counted_eq (T : Tx K w mg) : FnOk P w K mg base CX0 1 T.f_Counted_eq T.d_Counted_eq ["self", "other"] (sp_ceq K T.C_Counted) := by
  refine T.F_Counted_eq.ok sc_Counted_eq (fun vs H Q E h => ?_) (fun cdv A outer s H vs Q E hr h => ?_)
  · obtain ⟨a, z, F, U, rfl, _⟩ := h
    rfl
  · obtain ⟨a, z, F, U, rfl, ⟨ax, cp, cf, ha, hp, hf⟩, h⟩ := h
    refine ⟨_,
    (pss_one
      (ps_ret (pe_and (pe_callB call_isi (by rfl) T.m_isinstance (by decide +kernel) (pa_cons (pv 1) (pa_cons (pe_glob (v := .ref T.C_Counted) (by rfl) T.mg_Counted rfl) pa_nil))) (pe_and (pe_cmpR (op_eqD hr.units) (pe_fld (pv 0) rfl) (pe_fld (pv 1) rfl) (nomark _)) (pe_one (pe_cmpR (op_eqD hr.units) (pe_fld (pv 0) rfl) (pe_fld (pv 1) rfl) (nomark _))))))), ?_⟩
    have self : PySem.W.kitOne K (.ref T.C_Counted) (.ref T.C_Counted) = some true := if_pos (beq_self_eq_true _)
    rcases h with ⟨hz, k⟩ | ⟨b, F2, P2, rfl, ⟨bx, dp, df, hb, hdp, hdf⟩, k⟩
    · obtain ⟨tz, ty, kt⟩ := kind_ty hz T.xm_Counted T.tc_Counted
      refine ⟨_, rfl, _, _, _, _, false, rfl, .own T.C_Counted, .base ty, kt, _, rfl, ?_⟩
      exact k
    · refine ⟨_, rfl, _, _, _, _, true, rfl, .own T.C_Counted, .base (.ins hb T.cl_Counted T.xa_Counted T.xn_Counted T.xt_Counted T.xm_Counted), self, _, rfl, ?_⟩
      refine ⟨_, rfl, a, T.C_Counted, ax, _, _, rfl, ha, T.cl_Counted, T.n_Counted_firsts, cfl_f cp cf, _, rfl, b, T.C_Counted, bx, _, _, rfl, hb, T.cl_Counted, T.n_Counted_firsts, cfl_f dp df, .list (F.map PyData.int), .list (F2.map PyData.int), .lst (.of hf) dp_ints, .lst (.of hdf) dp_ints, list_ok _, list_ok _, _, rfl, ite2 (fun c => ?_) (fun c => ?_)⟩
      · refine ⟨_, rfl, a, T.C_Counted, ax, _, _, rfl, ha, T.cl_Counted, T.n_Counted_poly, cfl_p cp cf, _, rfl, b, T.C_Counted, bx, _, _, rfl, hb, T.cl_Counted, T.n_Counted_poly, cfl_p dp df, .list (U.map PyData.int), .list (P2.map PyData.int), .lst (.of hp) dp_ints, .lst (.of hdp) dp_ints, list_ok _, list_ok _, ?_⟩
        rw [eqv_ints] at c ⊢
        rw [c, Bool.true_and] at k
        exact k
      · rw [eqv_ints] at c
        rw [Bool.eq_false_iff.mpr c, Bool.false_and] at k
        exact k
def sp_changed : Sp := fun vs H Q _ => ∃ (d g p q : Addr) (hs r : List Int) (B : Nat), vs = [.ref d, .ref p, .ref q] ∧ Deck H d g ∧ Lat H d g p (hs.map V.int) ∧ Lat H d g q (r.map V.int) ∧ hs.length ≤ 60 ∧ r.length ≤ 60 ∧ Sz B r ∧ 1 ≤ B ∧ B ≤ 1000 ∧
  ∀ (u p' q' : Addr) (hs' r' : List Int) (H' : Hp), Std H H' d g → H u = none → (p' = p ∨ H p' = none) → (q' = q ∨ H q' = none) → H' u = some (.tup [.ref p', .ref q']) → Lat H' d g p' (hs'.map V.int) → Lat H' d g q' (r'.map V.int) → hs'.length ≤ 60 → r'.length ≤ 60 → Sz (B + 1) r' → Q (.ref u) H'
theorem ok_law_changed (T : Tx K w mg) : FnOk P w K mg base CX0 3 T.f_law_changed T.d_law_changed ["deck", "numbers", "row"] sp_changed := by
  refine T.F_law_changed.ok sc_law_changed (fun vs H Q E h => ?_) (fun cdv A outer s H vs Q E hr h => ?_)
  · obtain ⟨d, g, p, q, hs, r, B, rfl, _⟩ := h
    rfl
  · obtain ⟨d, g, p, q, hs, r, B, rfl, hD, lp, lq, hl, rl, szr, b1, b2, k⟩ := h
    refine ⟨_,
    (pss_cons
      (ps_set (i := 3) sc_law_changed.nd rfl (.inl rfl) (pe_call (ok_law_draw T) (hr.mono (by decide)) (by rfl) T.g_law_draw T.F_law_draw.kp T.b_law_draw .nil pass0 (pa_cons (pv 0) (pa_cons pe_int pa_nil))))
    (C8.pss_cut
      (ps_if (PW.pt (pw_and (pt_cmpR op_eq (pv 3) pe_int (nomark _)) (pw_and1 (pt_cmpR op_lt (pe_callB call_len_seq (by rfl) T.m_len (by decide +kernel) (pa_cons (pv 1) pa_nil)) pe_int (nomark _)))))
        (pss_one
          (ps_ret (pe_tup (pa_cons (pe_op op_cat (pv 1) (pe_lc (own := [("k", 5)]) (g := gName 5) rfl sc_law_changed.nd (pi_range1 (by rfl) T.m_range (pa_cons (pe_op op_add pe_int (pe_call (ok_law_draw T) (hr.mono (by decide)) (by rfl) T.g_law_draw T.F_law_draw.kp T.b_law_draw .nil pass0 (pa_cons (pv 0) (pa_cons pe_int pa_nil)))) pa_nil)) (blkOk_by (N := ["deck", "numbers", "row", "way", "at", "k"]) (sc := defScope s_law_changed) (own := [("k", 5)]) (by decide +kernel)) (fun _ _ _ _ _ => (pg_name (i := 5) sc_law_changed.nd rfl (.inl rfl))) (fun _ _ _ _ _ => pts_nil) (fun _ _ _ _ _ => (pe_call (ok_law_value T) (hr.mono (by decide)) (by rfl) T.g_law_value T.F_law_value.kp T.b_law_value .nil pass0 (pa_cons (pv 2) (pa_cons (pe_op op_add (pe_callB (id := "len") (r := rLen K) call_len_seq (by rfl) T.m_len (by decide +kernel) (pa_cons (pv 1) pa_nil)) (pv 5)) pa_nil)))))) (pa_cons (pv 2) pa_nil)))))
        pss_nil)
    (C8.pss_cut
      (ps_if (PW.pt (pw_and (pt_cmpR op_eq (pv 3) pe_int (nomark _)) (pw_and1 (pt_cmpR op_lt (pe_callB call_len_seq (by rfl) T.m_len (by decide +kernel) (pa_cons (pv 2) pa_nil)) pe_int (nomark _)))))
        (pss_one
          (ps_ret (pe_tup (pa_cons (pv 1) (pa_cons (pe_op op_cat (pv 2) (pe_lst (pa_cons pe_int (pa_cons pe_int pa_nil)))) pa_nil)))))
        pss_nil)
    (C8.pss_cut
      (ps_if (PW.pt (pw_and (pt_cmpR op_eq (pv 3) pe_int (nomark _)) (pw_and1 (pt_cmpR (op_neD hr.units) (pv 1) (pe_lst pa_nil) (nomark _)))))
        (pss_cons
          (ps_set (i := 4) sc_law_changed.nd rfl (.inl rfl) (pe_call (ok_law_draw T) (hr.mono (by decide)) (by rfl) T.g_law_draw T.F_law_draw.kp T.b_law_draw .nil pass0 (pa_cons (pv 0) (pa_cons (pe_callB call_len_seq (by rfl) T.m_len (by decide +kernel) (pa_cons (pv 1) pa_nil)) pa_nil))))
        (pss_one
          (ps_ret (pe_tup (pa_cons (pe_op op_cat (pe_op op_cat (pe_slice sl_list (pv 1) po_none (po_some (pv 4))) (pe_lst (pa_cons (pe_op op_add (pe_ix ix_list (pv 1) (pv 4) (fun _ _ => rfl)) (pe_ix ix_list (pe_lst (pa_cons pe_int (pa_cons (pe_un un_neg pe_int) pa_nil))) (pe_call (ok_law_draw T) (hr.mono (by decide)) (by rfl) T.g_law_draw T.F_law_draw.kp T.b_law_draw .nil pass0 (pa_cons (pv 0) (pa_cons pe_int pa_nil))) (fun _ _ => rfl))) pa_nil))) (pe_slice sl_list (pv 1) (po_some (pe_op op_add (pv 4) pe_int)) po_none)) (pa_cons (pv 2) pa_nil))))))
        pss_nil)
    (C8.pss_cut
      (ps_if (PW.pt (pw_and (pt_cmpR op_eq (pv 3) pe_int (nomark _)) (pw_and1 (pt_cmpR (op_neD hr.units) (pv 2) (pe_lst pa_nil) (nomark _)))))
        (pss_cons
          (ps_set (i := 4) sc_law_changed.nd rfl (.inl rfl) (pe_call (ok_law_draw T) (hr.mono (by decide)) (by rfl) T.g_law_draw T.F_law_draw.kp T.b_law_draw .nil pass0 (pa_cons (pv 0) (pa_cons (pe_callB call_len_seq (by rfl) T.m_len (by decide +kernel) (pa_cons (pv 2) pa_nil)) pa_nil))))
        (pss_one
          (ps_ret (pe_tup (pa_cons (pv 1) (pa_cons (pe_op op_cat (pe_op op_cat (pe_slice sl_list (pv 2) po_none (po_some (pv 4))) (pe_lst (pa_cons (pe_op op_add (pe_ix ix_list (pv 2) (pv 4) (fun _ _ => rfl)) (pe_ix ix_list (pe_lst (pa_cons pe_int (pa_cons (pe_un un_neg pe_int) pa_nil))) (pe_call (ok_law_draw T) (hr.mono (by decide)) (by rfl) T.g_law_draw T.F_law_draw.kp T.b_law_draw .nil pass0 (pa_cons (pv 0) (pa_cons pe_int pa_nil))) (fun _ _ => rfl))) pa_nil))) (pe_slice sl_list (pv 2) (po_some (pe_op op_add (pv 4) pe_int)) po_none)) pa_nil))))))
        pss_nil)
    (pss_one
      (ps_ret (pe_tup (pa_cons (pe_call (ok_law_needed T) hr (by rfl) T.g_law_needed T.F_law_needed.kp T.b_law_needed .nil pass0 (pa_cons (pv 1) (pa_cons (pv 2) pa_nil))) (pa_cons (pe_call (ok_law_trimmed T) (hr.mono (by decide)) (by rfl) T.g_law_trimmed T.F_law_trimmed.kp T.b_law_trimmed .nil pass0 (pa_cons (pv 2) pa_nil)) pa_nil)))))))))), ?_⟩
    have rok : RowOk r := szr.rowOk b1 (by omega) (by omega)
    refine ⟨_, rfl, d, g, 5, rfl, hD, by decide, by decide +kernel, fun way H1 _ _ hD1 k1 => ?_⟩
    have s1 : Std H H1 d g := (Std.refl hD).draw hD1 k1
    have lp1 := lp.keep k1
    have lq1 := lq.keep k1
    -- more first numbers
    refine ⟨fun σ H' => Same H1 H' ∧ ∃ x4 x5, σ = [some (.ref d), some (.ref p), some (.ref q), some (.int way), x4, x5], ⟨_, rfl, rfl, _, rfl, ite2 (fun _ => ⟨_, rfl, p, _, rfl, .inl (.of lp1.at_), _, _, rfl, rfl, _, rfl, ite2 (fun c => ?_) (fun c => ⟨Same.refl _, _, _, rfl⟩)⟩) (fun _ => ⟨Same.refl _, _, _, rfl⟩)⟩, ?_⟩
    · have c2 : ((hs.map V.int).length : Int) < 38 := of_decide_eq_true c
      rw [List.length_map] at c2
      refine ⟨_, rfl, _, rfl, d, g, 2, rfl, s1.dk, by decide, by decide +kernel, fun e H2 e0 e1 hD2 k2 => ⟨_, _, rfl, rfl, _, rfl, by omega, by omega, fun D hDn => ?_⟩⟩
      have s2 := s1.draw hD2 k2
      have lp2 := lp1.keep k2
      have lq2 := lq1.keep k2
      refine lc_range (lo := 0) (n := (1 + e).toNat) (fun i H' => Same H2 H' ∧ H' D = some (.lst (((List.range i).map fun (j : Nat) => pol r (((hs.length : Nat) : Int) + (j : Int))).map V.int))) ⟨same_upd hDn, upd_same⟩ ?_ ?_
      · rintro i H9 hi ⟨s9, e9⟩
        refine ⟨rfl, _, rfl, _, rfl, p, _, rfl, .inl (.of (s9 _ _ lp2.at_)), _, rfl, _, _, rfl, rfl, q, r, _, rfl, .of (s9 _ _ lq2.at_), rok.small (by rw [List.length_map]; omega), fun H10 s10 => ⟨_, s10 _ _ e9, ?_, fun b o e => ?_, ?_⟩⟩
        · rw [List.length_map, List.length_map, List.length_range]; exact small1000 (by omega)
        · rw [upd_ne (ne_of_none e hDn)]
          exact s10 b o (s9 b o e)
        · rw [upd_same, List.range_succ, List.map_append, List.map_append, List.length_map, Int.zero_add]; rfl
      · rintro H9 ⟨s9, e9⟩
        have s3 := s2.same s9
        refine ⟨p, D, _, _, rfl, rfl, s9 _ _ lp2.at_, e9, ?_, fun N hN => ?_⟩
        · rw [List.length_map, List.length_map, List.length_map, List.length_range]; exact Nat.le_of_lt (small1000 (by omega))
        have sN := same_upd (o := .lst (hs.map V.int ++ ((List.range (1 + e).toNat).map fun (j : Nat) => pol r (((hs.length : Nat) : Int) + (j : Int))).map V.int)) hN
        have dN := s3.dk.new hN
        refine ⟨_, rfl, (by show 2 ≤ sizeLine; decide), fun u hu => ?_⟩
        have su := same_upd (o := .tup [.ref N, .ref q]) hu
        refine k u N q (hs ++ (List.range (1 + e).toNat).map fun (j : Nat) => pol r (((hs.length : Nat) : Int) + (j : Int))) r _ ((s3.same sN).same su) ((s3.same sN).free hu) (.inr (s3.free hN)) (.inl rfl) upd_same ⟨su _ _ (by rw [upd_same, List.map_append]), dN.1, dN.2⟩ ((lq2.keep (Same.kd s9)).keep (Same.kd (sN.trans su))) ?_ rl (szr.mono (by omega))
        rw [List.length_append, List.length_map, List.length_range]
        omega
    rintro σ H2 ⟨s2, x4, x5, rfl⟩
    -- zeros behind
    have t2 := s1.same s2
    have lp2 := lp1.keep (Same.kd s2)
    have lq2 := lq1.keep (Same.kd s2)
    refine ⟨fun σ H' => Same H2 H' ∧ ∃ x4 x5, σ = [some (.ref d), some (.ref p), some (.ref q), some (.int way), x4, x5], ⟨_, rfl, rfl, _, rfl, ite2 (fun _ => ⟨_, rfl, q, _, rfl, .inl (.of lq2.at_), _, _, rfl, rfl, _, rfl, ite2 (fun c => ?_) (fun c => ⟨Same.refl _, _, _, rfl⟩)⟩) (fun _ => ⟨Same.refl _, _, _, rfl⟩)⟩, ?_⟩
    · have c2 : ((r.map V.int).length : Int) < 38 := of_decide_eq_true c
      rw [List.length_map] at c2
      refine ⟨_, rfl, _, rfl, (by show 2 ≤ sizeLine; decide), fun Z hZ => ?_⟩
      have sZ := same_upd (o := .lst [.int 0, .int 0]) hZ
      refine ⟨q, Z, _, _, rfl, rfl, sZ _ _ lq2.at_, upd_same, ?_, fun N hN => ?_⟩
      · rw [List.length_map]; exact Nat.le_of_lt (small1000 (by show r.length + 2 ≤ 1000; omega))
      have s3 := t2.same sZ
      have sN := same_upd (o := .lst (r.map V.int ++ [.int 0, .int 0])) hN
      have dN := s3.dk.new hN
      refine ⟨(by show 2 ≤ sizeLine; decide), fun u hu => ?_⟩
      have su := same_upd (o := .tup [.ref p, .ref N]) hu
      refine k u p N hs (r ++ [0, 0]) _ ((s3.same sN).same su) ((s3.same sN).free hu) (.inl rfl) (.inr (s3.free hN)) upd_same (lp2.keep (Same.kd ((sZ.trans sN).trans su))) ⟨su _ _ (by rw [upd_same, List.map_append]; rfl), dN.1, dN.2⟩ hl ?_ ?_
      · rw [List.length_append]; show r.length + 2 ≤ 60; omega
      · intro y hy
        rcases List.mem_append.mp hy with h | h
        · exact (szr.mono (by omega)) y h
        · have : y = 0 := by simpa using h
          rw [this]
          exact Nat.pow_pos (by decide)
    clear s2 x4 x5
    rintro σ H3 ⟨s3, x4, x5, rfl⟩
    have t3 := t2.same s3
    have lp3 := lp2.keep (Same.kd s3)
    have lq3 := lq2.keep (Same.kd s3)
    clear s3 t2 lp2 lq2 s1 lp1 lq1 k1
    -- one number changed
    refine ⟨fun σ H' => Same H3 H' ∧ ∃ x4 x5, σ = [some (.ref d), some (.ref p), some (.ref q), some (.int way), x4, x5], ⟨_, rfl, rfl, _, rfl, ite2 (fun _ => ⟨_, rfl, Nat.zero_le _, fun Z hZ => ⟨.list (hs.map PyData.int), .list [], .lst (.of (same_upd hZ _ _ lp3.at_)) dp_ints, .lst (.of upd_same) .nil, list_ok _, by decide, _, rfl, ite2 (fun c => ?_) (fun c => ⟨same_upd hZ, _, _, rfl⟩)⟩⟩) (fun _ => ⟨Same.refl _, _, _, rfl⟩)⟩, ?_⟩
    · have sZ := same_upd (o := .lst []) hZ
      generalize upd H3 Z (.lst []) = HZ at *
      have hX : (hs.map V.int).length = hs.length := List.length_map _
      have x0 : 0 < hs.length := by
        rcases Nat.eq_zero_or_pos hs.length with h | h
        · have : hs = [] := List.eq_nil_of_length_eq_zero h
          rw [this] at c
          exact absurd c (by decide)
        · exact h
      refine ⟨_, rfl, _, rfl, p, _, rfl, .inl (.of (sZ _ _ lp3.at_)), d, g, _, rfl, (t3.same sZ).dk, ?_, ?_, fun at_ H4 a0 a1 hD4 k4 => ?_⟩
      · rw [hX]; omega
      · exact small_log (by rw [hX]; omega)
      rw [hX] at a1
      obtain ⟨j, rfl⟩ := Int.eq_ofNat_of_zero_le a0
      have hj : j < hs.length := by omega
      have s4 := (t3.same sZ).draw hD4 k4
      have lp4 := (lp3.keep (Same.kd sZ)).keep k4
      have lq4 := (lq3.keep (Same.kd sZ)).keep k4
      refine ⟨_, rfl, _, rfl, _, rfl, p, _, rfl, .of lp4.at_, fun S hS => ?_⟩
      rw [map_take_int]
      have sS := same_upd (o := .lst ((hs.take j).map V.int)) hS
      have eS := upd_same (H := H4) (a := S) (o := .lst ((hs.take j).map V.int))
      have dS := s4.dk.new hS
      have s5 := s4.same sS
      have lp5 := lp4.keep (Same.kd sS)
      have lq5 := lq4.keep (Same.kd sS)
      generalize upd H4 S (.lst ((hs.take j).map V.int)) = H5 at *
      have gx : (hs.map V.int)[j]? = some (V.int (hs.getD j 0)) := by rw [List.getElem?_map, List.getD_eq_getElem?_getD, List.getElem?_eq_getElem hj]; rfl
      refine ⟨_, rfl, _, rfl, p, _, _, V.int (hs.getD j 0), rfl, rfl, .of lp5.at_, at_of (j := j) (by omega) gx, _, rfl, (by show 2 ≤ sizeLine; decide), fun L hL => ?_⟩
      have sL := same_upd (o := .lst ([1, -1].map V.int)) hL
      have eL := upd_same (H := H5) (a := L) (o := .lst ([1, -1].map V.int))
      have dL := s5.dk.new hL
      refine ⟨_, rfl, d, g, 2, rfl, (s5.same sL).dk, by decide, by decide +kernel, fun w H6 w0 w1 hD6 k6 => ?_⟩
      obtain ⟨x, hx, gw⟩ := pickI (ms := [1, -1]) w0 w1
      have s6 := (s5.same sL).draw hD6 k6
      have lp6 := (lp5.keep (Same.kd sL)).keep k6
      have lq6 := (lq5.keep (Same.kd sL)).keep k6
      have eS6 := k6 _ _ (sL _ _ eS) dS.1 dS.2
      refine ⟨L, _, _, V.int x, rfl, rfl, .of (k6 _ _ eL dL.1 dL.2), at_of (j := w.toNat) (by omega) gw, _, _, rfl, rfl, (by show 1 ≤ sizeLine; decide), fun M hM => ?_⟩
      have sM := same_upd (o := .lst [.int (hs.getD j 0 + x)]) hM
      refine ⟨S, M, _, _, rfl, rfl, sM _ _ eS6, upd_same, ?_, fun N1 hN1 => ?_⟩
      · rw [List.length_map, List.length_take]; exact Nat.le_of_lt (small1000 (by show min j hs.length + 1 ≤ 1000; omega))
      have s7 := (s6.same sM).same (same_upd (o := .lst ((hs.take j).map V.int ++ [.int (hs.getD j 0 + x)])) hN1)
      have sMN := sM.trans (same_upd (o := .lst ((hs.take j).map V.int ++ [.int (hs.getD j 0 + x)])) hN1)
      have eN1 := upd_same (H := upd H6 M (.lst [.int (hs.getD j 0 + x)])) (a := N1) (o := .lst ((hs.take j).map V.int ++ [.int (hs.getD j 0 + x)]))
      have lp7 := lp6.keep (Same.kd sMN)
      have lq7 := lq6.keep (Same.kd sMN)
      generalize upd (upd H6 M (.lst [.int (hs.getD j 0 + x)])) N1 (.lst ((hs.take j).map V.int ++ [.int (hs.getD j 0 + x)])) = H7 at *
      refine ⟨_, rfl, _, rfl, _, _, rfl, rfl, _, rfl, p, _, rfl, .of lp7.at_, fun S2 hS2 => ?_⟩
      rw [show ((j : Int) + 1) = (((j + 1 : Nat)) : Int) from rfl, cut_drop, ← List.map_drop]
      have sS2 := same_upd (o := .lst ((hs.drop (j + 1)).map V.int)) hS2
      refine ⟨N1, S2, _, _, rfl, rfl, sS2 _ _ eN1, upd_same, ?_, fun N hN => ?_⟩
      · rw [List.length_append, List.length_map, List.length_map, List.length_take, List.length_drop]; exact Nat.le_of_lt (small1000 (by show min j hs.length + 1 + (hs.length - (j + 1)) ≤ 1000; omega))
      have s8 := s7.same sS2
      have sN := same_upd (o := .lst ((hs.take j).map V.int ++ [.int (hs.getD j 0 + x)] ++ (hs.drop (j + 1)).map V.int)) hN
      have dN := s8.dk.new hN
      have eN := upd_same (H := upd H7 S2 (.lst ((hs.drop (j + 1)).map V.int))) (a := N) (o := .lst ((hs.take j).map V.int ++ [.int (hs.getD j 0 + x)] ++ (hs.drop (j + 1)).map V.int))
      have eN' : ((hs.take j).map V.int ++ [.int (hs.getD j 0 + x)] ++ (hs.drop (j + 1)).map V.int) = (hs.take j ++ [hs.getD j 0 + x] ++ hs.drop (j + 1)).map V.int := by rw [List.map_append, List.map_append]; rfl
      have len9 : (hs.take j ++ [hs.getD j 0 + x] ++ hs.drop (j + 1)).length ≤ 60 := by
        rw [List.length_append, List.length_append, List.length_take, List.length_drop]; show min j hs.length + 1 + (hs.length - (j + 1)) ≤ 60; omega
      refine ⟨_, rfl, (by show 2 ≤ sizeLine; decide), fun u hu => ?_⟩
      have su := same_upd (o := .tup [.ref N, .ref q]) hu
      exact k u N q _ r _ ((s8.same sN).same su) ((s8.same sN).free hu) (.inr (s8.free hN)) (.inl rfl) upd_same ⟨su _ _ (by rw [eN, eN']), dN.1, dN.2⟩ (lq7.keep (Same.kd (sS2.trans (sN.trans su)))) len9 rl (szr.mono (by omega))
    clear x4 x5
    rintro σ H3b ⟨s3, x4, x5, rfl⟩
    have u3 := t3.same s3
    have up := lp3.keep (Same.kd s3)
    have uq := lq3.keep (Same.kd s3)
    clear s3 t3 lp3 lq3
    have t3 := u3
    have lp3 := up
    have lq3 := uq
    clear u3 up uq
    -- one entry changed
    refine ⟨fun σ H' => Same H3b H' ∧ ∃ x4 x5, σ = [some (.ref d), some (.ref p), some (.ref q), some (.int way), x4, x5], ⟨_, rfl, rfl, _, rfl, ite2 (fun _ => ⟨_, rfl, Nat.zero_le _, fun Z hZ => ⟨.list (r.map PyData.int), .list [], .lst (.of (same_upd hZ _ _ lq3.at_)) dp_ints, .lst (.of upd_same) .nil, list_ok _, by decide, _, rfl, ite2 (fun c => ?_) (fun c => ⟨same_upd hZ, _, _, rfl⟩)⟩⟩) (fun _ => ⟨Same.refl _, _, _, rfl⟩)⟩, ?_⟩
    · have sZ := same_upd (o := .lst []) hZ
      generalize upd H3b Z (.lst []) = HZ at *
      have hX : (r.map V.int).length = r.length := List.length_map _
      have x0 : 0 < r.length := by
        rcases Nat.eq_zero_or_pos r.length with h | h
        · have : r = [] := List.eq_nil_of_length_eq_zero h
          rw [this] at c
          exact absurd c (by decide)
        · exact h
      refine ⟨_, rfl, _, rfl, q, _, rfl, .inl (.of (sZ _ _ lq3.at_)), d, g, _, rfl, (t3.same sZ).dk, ?_, ?_, fun at_ H4 a0 a1 hD4 k4 => ?_⟩
      · rw [hX]; omega
      · exact small_log (by rw [hX]; omega)
      rw [hX] at a1
      obtain ⟨j, rfl⟩ := Int.eq_ofNat_of_zero_le a0
      have hj : j < r.length := by omega
      have s4 := (t3.same sZ).draw hD4 k4
      have lp4 := (lp3.keep (Same.kd sZ)).keep k4
      have lq4 := (lq3.keep (Same.kd sZ)).keep k4
      refine ⟨_, rfl, _, rfl, _, rfl, _, rfl, q, _, rfl, .of lq4.at_, fun S hS => ?_⟩
      rw [map_take_int]
      have sS := same_upd (o := .lst ((r.take j).map V.int)) hS
      have eS := upd_same (H := H4) (a := S) (o := .lst ((r.take j).map V.int))
      have dS := s4.dk.new hS
      have s5 := s4.same sS
      have lp5 := lp4.keep (Same.kd sS)
      have lq5 := lq4.keep (Same.kd sS)
      generalize upd H4 S (.lst ((r.take j).map V.int)) = H5 at *
      have gx : (r.map V.int)[j]? = some (V.int (r.getD j 0)) := by rw [List.getElem?_map, List.getD_eq_getElem?_getD, List.getElem?_eq_getElem hj]; rfl
      refine ⟨_, rfl, _, rfl, q, _, _, V.int (r.getD j 0), rfl, rfl, .of lq5.at_, at_of (j := j) (by omega) gx, _, rfl, (by show 2 ≤ sizeLine; decide), fun L hL => ?_⟩
      have sL := same_upd (o := .lst ([1, -1].map V.int)) hL
      have eL := upd_same (H := H5) (a := L) (o := .lst ([1, -1].map V.int))
      have dL := s5.dk.new hL
      refine ⟨_, rfl, d, g, 2, rfl, (s5.same sL).dk, by decide, by decide +kernel, fun w H6 w0 w1 hD6 k6 => ?_⟩
      obtain ⟨x, hx, gw⟩ := pickI (ms := [1, -1]) w0 w1
      have s6 := (s5.same sL).draw hD6 k6
      have lp6 := (lp5.keep (Same.kd sL)).keep k6
      have lq6 := (lq5.keep (Same.kd sL)).keep k6
      have eS6 := k6 _ _ (sL _ _ eS) dS.1 dS.2
      refine ⟨L, _, _, V.int x, rfl, rfl, .of (k6 _ _ eL dL.1 dL.2), at_of (j := w.toNat) (by omega) gw, _, _, rfl, rfl, (by show 1 ≤ sizeLine; decide), fun M hM => ?_⟩
      have sM := same_upd (o := .lst [.int (r.getD j 0 + x)]) hM
      refine ⟨S, M, _, _, rfl, rfl, sM _ _ eS6, upd_same, ?_, fun N1 hN1 => ?_⟩
      · rw [List.length_map, List.length_take]; exact Nat.le_of_lt (small1000 (by show min j r.length + 1 ≤ 1000; omega))
      have s7 := (s6.same sM).same (same_upd (o := .lst ((r.take j).map V.int ++ [.int (r.getD j 0 + x)])) hN1)
      have sMN := sM.trans (same_upd (o := .lst ((r.take j).map V.int ++ [.int (r.getD j 0 + x)])) hN1)
      have eN1 := upd_same (H := upd H6 M (.lst [.int (r.getD j 0 + x)])) (a := N1) (o := .lst ((r.take j).map V.int ++ [.int (r.getD j 0 + x)]))
      have lp7 := lp6.keep (Same.kd sMN)
      have lq7 := lq6.keep (Same.kd sMN)
      generalize upd (upd H6 M (.lst [.int (r.getD j 0 + x)])) N1 (.lst ((r.take j).map V.int ++ [.int (r.getD j 0 + x)])) = H7 at *
      refine ⟨_, rfl, _, rfl, _, _, rfl, rfl, _, rfl, q, _, rfl, .of lq7.at_, fun S2 hS2 => ?_⟩
      rw [show ((j : Int) + 1) = (((j + 1 : Nat)) : Int) from rfl, cut_drop, ← List.map_drop]
      have sS2 := same_upd (o := .lst ((r.drop (j + 1)).map V.int)) hS2
      refine ⟨N1, S2, _, _, rfl, rfl, sS2 _ _ eN1, upd_same, ?_, fun N hN => ?_⟩
      · rw [List.length_append, List.length_map, List.length_map, List.length_take, List.length_drop]; exact Nat.le_of_lt (small1000 (by show min j r.length + 1 + (r.length - (j + 1)) ≤ 1000; omega))
      have s8 := s7.same sS2
      have sN := same_upd (o := .lst ((r.take j).map V.int ++ [.int (r.getD j 0 + x)] ++ (r.drop (j + 1)).map V.int)) hN
      have dN := s8.dk.new hN
      have eN := upd_same (H := upd H7 S2 (.lst ((r.drop (j + 1)).map V.int))) (a := N) (o := .lst ((r.take j).map V.int ++ [.int (r.getD j 0 + x)] ++ (r.drop (j + 1)).map V.int))
      have eN' : ((r.take j).map V.int ++ [.int (r.getD j 0 + x)] ++ (r.drop (j + 1)).map V.int) = (r.take j ++ [r.getD j 0 + x] ++ r.drop (j + 1)).map V.int := by rw [List.map_append, List.map_append]; rfl
      have len9 : (r.take j ++ [r.getD j 0 + x] ++ r.drop (j + 1)).length ≤ 60 := by
        rw [List.length_append, List.length_append, List.length_take, List.length_drop]; show min j r.length + 1 + (r.length - (j + 1)) ≤ 60; omega
      refine ⟨(by show 2 ≤ sizeLine; decide), fun u hu => ?_⟩
      have su := same_upd (o := .tup [.ref p, .ref N]) hu
      refine k u p N hs _ _ ((s8.same sN).same su) ((s8.same sN).free hu) (.inl rfl) (.inr (s8.free hN)) upd_same (lp7.keep (Same.kd (sS2.trans (sN.trans su)))) ⟨su _ _ (by rw [eN, eN']), dN.1, dN.2⟩ hl len9 ?_
      intro y hy
      rcases List.mem_append.mp hy with h | h
      · rcases List.mem_append.mp h with h | h
        · exact (szr.mono (by omega)) y (List.mem_of_mem_take h)
        · rw [List.mem_singleton.mp h]
          have hm : r.getD j 0 ∈ r := by
            rw [List.getD_eq_getElem?_getD, List.getElem?_eq_getElem hj]
            exact List.getElem_mem hj
          have h1 := szr _ hm
          have h2 : x.natAbs = 1 := by
            simp only [List.mem_cons, List.not_mem_nil, or_false] at hx
            rcases hx with rfl | rfl <;> rfl
          have h3 : (2 : Nat) ^ (B + 1) = 2 * 2 ^ B := by rw [Nat.pow_succ]; omega
          have h4 : 1 ≤ 2 ^ B := Nat.pow_pos (by decide)
          show (r.getD j 0 + x).natAbs < 2 ^ (B + 1)
          omega
      · exact (szr.mono (by omega)) y (List.mem_of_mem_drop h)
    clear x4 x5
    rintro σ H4 ⟨s3, x4, x5, rfl⟩
    have t4 := t3.same s3
    have lp4 := lp3.keep (Same.kd s3)
    have lq4 := lq3.keep (Same.kd s3)
    refine ⟨_, rfl, _, rfl, p, q, hs, r, rfl, lp4.at_, lq4.at_, by omega, rok, fun N H5 hN s5 eN => ?_⟩
    have dN := t4.dk.new hN
    refine ⟨_, rfl, q, r, rfl, .of (s5 _ _ lq4.at_), by omega, fun M hM => ?_⟩
    have s6 := s5.trans (same_upd (o := .lst ((trim r).map V.int)) hM)
    have t6 := t4.same s6
    have dM := (t4.same s5).dk.new hM
    refine ⟨(by show 2 ≤ sizeLine; decide), fun u hu => ?_⟩
    have su := same_upd (o := .tup [.ref N, .ref M]) hu
    have tl := trim_length r
    refine k u N M (needL hs r) (trim r) _ (t6.same su) (t6.free hu) (.inr (t4.free hN)) (.inr ((t4.same s5).free hM)) upd_same ⟨su _ _ (same_upd (o := .lst ((trim r).map V.int)) hM _ _ eN), dN.1, dN.2⟩ ⟨su _ _ upd_same, dM.1, dM.2⟩ ?_ (by omega) ((trim_size szr).mono (by omega))
    unfold needL
    rw [List.length_take]
    omega
def Cmp2 (C : Addr) (H : Hp) (a : Addr) (z : V) (due : Bool) : Prop := ∃ F U, CnI C H a F U ∧ ((Kind H z ∧ due = false) ∨ ∃ (b : Addr) (F2 U2 : List Int), z = .ref b ∧ CnI C H b F2 U2 ∧ due = (decide (F = F2) && decide (U = U2)))
theorem Kind.same {H H' : Hp} {z : V} (h : Kind H z) (s : Same H H') : Kind H' z := by
  rcases h with h | h | h | ⟨a, xs, h1, h2⟩ | ⟨a, xs, h1, h2⟩
  · exact .inl h
  · exact .inr (.inl h)
  · exact .inr (.inr (.inl h))
  · exact .inr (.inr (.inr (.inl ⟨a, xs, h1, s _ _ h2⟩)))
  · exact .inr (.inr (.inr (.inr ⟨a, xs, h1, s _ _ h2⟩)))
theorem CnI.same {C : Addr} {H H' : Hp} {c : Addr} {F U : List Int} (h : CnI C H c F U) (s : Same H H') : CnI C H' c F U := by
  obtain ⟨dx, p, f, h1, h2, h3⟩ := h
  exact ⟨dx, p, f, s _ _ h1, s _ _ h2, s _ _ h3⟩
theorem Cmp2.same {C : Addr} {H H' : Hp} {a : Addr} {z : V} {due : Bool} (h : Cmp2 C H a z due) (s : Same H H') : Cmp2 C H' a z due := by
  obtain ⟨F, U, h1, h2⟩ := h
  refine ⟨F, U, h1.same s, ?_⟩
  rcases h2 with ⟨h3, h4⟩ | ⟨b, F2, U2, h3, h4, h5⟩
  · exact .inl ⟨h3.same s, h4⟩
  · exact .inr ⟨b, F2, U2, h3, h4.same s, h5⟩
theorem CnI.ins {C : Addr} {H : Hp} {c : Addr} {F U : List Int} (h : CnI C H c F U) : ∃ dx fs, H c = some (.ins C dx fs) := by
  obtain ⟨dx, p, f, h1, _⟩ := h
  exact ⟨dx, _, h1⟩
theorem Cmp2.run {K : PySem.W.Frag} {C : Addr} {H : Hp} {a : Addr} {z : V} {due : Bool} {Q : V → Hp → Prop} {E : XK} (h : Cmp2 C H a z due) (k : Q (.bl due) H) : sp_ceq K C [.ref a, z] H Q E := by
  obtain ⟨F, U, h1, h2⟩ := h
  refine ⟨a, z, F, U, rfl, h1, ?_⟩
  rcases h2 with ⟨h3, rfl⟩ | ⟨b, F2, U2, h3, h4, rfl⟩
  · exact .inl ⟨h3, k⟩
  · exact .inr ⟨b, F2, U2, h3, h4, k⟩
theorem Cmp2.one {C : Addr} {H : Hp} {a : Addr} {z : V} {due : Bool} (h : Cmp2 C H a z due) : CmpTwo C (.ref a) z H a z := by
  obtain ⟨F, U, h1, h2⟩ := h
  refine ⟨h1.ins, .inl ⟨rfl, rfl, ?_⟩⟩
  rcases h2 with ⟨h3, _⟩ | ⟨b, F2, U2, h3, h4, _⟩
  · exact .inl h3
  · obtain ⟨dy, gs, e⟩ := h4.ins
    exact .inr ⟨b, dy, gs, h3, e⟩
/-- the other way round -/
theorem Cmp2.two {C : Addr} {H : Hp} {a : Addr} {z : V} {due : Bool} (h : Cmp2 C H a z due) : ∃ a' z', CmpTwo C z (.ref a) H a' z' ∧ Cmp2 C H a' z' due := by
  obtain ⟨F, U, h1, h2⟩ := h
  rcases h2 with ⟨h3, h4⟩ | ⟨b, F2, U2, rfl, h4, h5⟩
  · exact ⟨a, z, ⟨h1.ins, .inr ⟨rfl, rfl, h3⟩⟩, F, U, h1, .inl ⟨h3, h4⟩⟩
  · obtain ⟨dy, gs, e⟩ := h1.ins
    refine ⟨b, .ref a, ⟨h4.ins, .inl ⟨rfl, rfl, .inr ⟨a, dy, gs, rfl, e⟩⟩⟩, F2, U2, h4, .inr ⟨a, F, U, rfl, h1, ?_⟩⟩
    rw [h5, decide_eq_decide.mpr (eq_comm (a := F) (b := F2)), decide_eq_decide.mpr (eq_comm (a := U) (b := U2))]
theorem Cmp2.eq12 {K : PySem.W.Frag} {C : Addr} {H : Hp} {a : Addr} {z : V} {due : Bool} {Q : V → Hp → Prop} (h : Cmp2 C H a z due) (k : Q (.bl due) H) : rEqAny C (sp_ceq K C) (.ref a) z H Q := ⟨a, z, h.one, h.run k⟩
theorem Cmp2.eq21 {K : PySem.W.Frag} {C : Addr} {H : Hp} {a : Addr} {z : V} {due : Bool} {Q : V → Hp → Prop} (h : Cmp2 C H a z due) (k : Q (.bl due) H) : rEqAny C (sp_ceq K C) z (.ref a) H Q := by
  obtain ⟨a', z', h1, h2⟩ := h.two
  exact ⟨a', z', h1, h2.run k⟩
theorem Cmp2.ne12 {K : PySem.W.Frag} {C : Addr} {H : Hp} {a : Addr} {z : V} {due : Bool} {Q : V → Hp → Prop} (h : Cmp2 C H a z due) (k : Q (.bl (!due)) H) : rNeAny C (sp_ceq K C) (.ref a) z H Q := ⟨a, z, h.one, h.run ⟨due, rfl, k⟩⟩
theorem Cmp2.ne21 {K : PySem.W.Frag} {C : Addr} {H : Hp} {a : Addr} {z : V} {due : Bool} {Q : V → Hp → Prop} (h : Cmp2 C H a z due) (k : Q (.bl (!due)) H) : rNeAny C (sp_ceq K C) z (.ref a) H Q := by
  obtain ⟨a', z', h1, h2⟩ := h.two
  exact ⟨a', z', h1, h2.run ⟨due, rfl, k⟩⟩
theorem bools_ok (x y : Bool) : SeqAt.shaped (.list [.bool x, .bool y]) = true := by cases x <;> cases y <;> decide
theorem dp_bools {K : PySem.W.Frag} {H : Hp} {a : Addr} {x y : Bool} (e : H a = some (.lst [.bl x, .bl y])) : Dp K H (.ref a) (.list [.bool x, .bool y]) := .lst (.of e) (.cons (.bl _) (.cons (.bl _) .nil))
def sp_compared (K : PySem.W.Frag) (C : Addr) : Sp := fun vs H Q _ => ∃ (a : Addr) (z : V) (due : Bool), vs = [.ref a, z, .bl due] ∧ Cmp2 C H a z due ∧ ∀ H', Same H H' → Q (.bl true) H'
theorem ok_law_compared (T : Tx K w mg) : FnOk P w K mg base CX0 5 T.f_law_compared T.d_law_compared ["one", "two", "due"] (sp_compared K T.C_Counted) := by
  refine T.F_law_compared.ok sc_law_compared (fun vs H Q E h => ?_) (fun cdv A outer s H vs Q E hr h => ?_)
  · obtain ⟨a, z, due, rfl, _⟩ := h
    rfl
  · obtain ⟨a, z, due, rfl, h2, k⟩ := h
    refine ⟨_,
    (pss_cons
      (ps_set (i := 3) sc_law_compared.nd rfl (.inl rfl) (pe_lst (pa_cons (pe_cmpR (op_eqAny T.cm_Counted T.me_Counted_eq (ok_Counted_eq T) (hr.mono (by decide)) T.b_Counted_eq) (pv 0) (pv 1) (nomark _)) (pa_cons (pe_cmpR (op_eqAny T.cm_Counted T.me_Counted_eq (ok_Counted_eq T) (hr.mono (by decide)) T.b_Counted_eq) (pv 1) (pv 0) (nomark _)) pa_nil))))
    (pss_cons
      (ps_set (i := 4) sc_law_compared.nd rfl (.inl rfl) (pe_lst (pa_cons (pe_cmpR (op_neAny T.cm_Counted T.me_Counted_eq (ok_Counted_eq T) (hr.mono (by decide)) T.b_Counted_eq) (pv 0) (pv 1) (nomark _)) (pa_cons (pe_cmpR (op_neAny T.cm_Counted T.me_Counted_eq (ok_Counted_eq T) (hr.mono (by decide)) T.b_Counted_eq) (pv 1) (pv 0) (nomark _)) pa_nil))))
    (pss_cons
      (ps_if (pt_not (pt_val (pe_callB (cr_all rfl) (by rfl) T.m_all (by decide +kernel) (pa_cons (pe_lc (own := [("answer", 5)]) (g := gName 5) rfl sc_law_compared.nd (pi_list (pe_op op_cat (pv 3) (pv 4))) (blkOk_by (N := ["one", "two", "due", "told", "unlike", "answer"]) (sc := defScope s_law_compared) (own := [("answer", 5)]) (by decide +kernel)) (fun _ _ _ _ _ => (pg_name (i := 5) sc_law_compared.nd rfl (.inl rfl))) (fun _ _ _ _ _ => pts_nil) (fun _ _ _ _ _ => (pe_callB (id := "isinstance") (r := rIsi K) call_isi (by rfl) T.m_isinstance (by decide +kernel) (pa_cons (pv 5) (pa_cons (pe_bltn (v := .ty "bool") (by rfl) T.m_bool (by decide +kernel) rfl) pa_nil))))) pa_nil))))
        (pss_one
          (ps_ret pe_bl))
        pss_nil)
    (pss_one
      (ps_ret (pe_and (pe_cmpR (op_eqD hr.units) (pv 3) (pe_lst (pa_cons (pv 2) (pa_cons (pv 2) pa_nil))) (nomark _)) (pe_one (pe_cmpR (op_eqD hr.units) (pv 4) (pe_lst (pa_cons (pe_not (pv 2)) (pa_cons (pe_not (pv 2)) pa_nil))) (nomark _))))))))), ?_⟩
    refine ⟨_, rfl, _, rfl, h2.eq12 ⟨_, rfl, _, rfl, h2.eq21 ⟨(by show 2 ≤ sizeLine; decide), fun L1 hL1 => ?_⟩⟩⟩
    have s1 := same_upd (o := .lst [.bl due, .bl due]) hL1
    have e1 := upd_same (H := H) (a := L1) (o := .lst [.bl due, .bl due])
    have h3 := h2.same s1
    refine ⟨_, rfl, _, rfl, h3.ne12 ⟨_, rfl, _, rfl, h3.ne21 ⟨(by show 2 ≤ sizeLine; decide), fun L2 hL2 => ?_⟩⟩⟩
    have s2 := s1.trans (same_upd (o := .lst [.bl (!due), .bl (!due)]) hL2)
    have e2 := upd_same (H := upd H L1 (.lst [.bl due, .bl due])) (a := L2) (o := .lst [.bl (!due), .bl (!due)])
    have e12 := same_upd (o := .lst [.bl (!due), .bl (!due)]) hL2 _ _ e1
    generalize upd (upd H L1 (.lst [.bl due, .bl due])) L2 (.lst [.bl (!due), .bl (!due)]) = H2 at s2 e2 e12 ⊢
    clear e1 s1 h3 hL2 hL1
    refine ⟨_, rfl, _, rfl, L1, L2, _, _, rfl, rfl, e12, e2, (by show 4 ≤ sizeLine; decide), fun N hN => ?_⟩
    have s3 := s2.trans (same_upd (o := .lst [.bl due, .bl due, .bl (!due), .bl (!due)]) hN)
    have e13 := same_upd (o := .lst [.bl due, .bl due, .bl (!due), .bl (!due)]) hN _ _ e12
    have e23 := same_upd (o := .lst [.bl due, .bl due, .bl (!due), .bl (!due)]) hN _ _ e2
    have eN := upd_same (H := H2) (a := N) (o := .lst [.bl due, .bl due, .bl (!due), .bl (!due)])
    refine ⟨N, rfl, ⟨_, .of eN⟩, fun D hDn => ?_⟩
    have eD := upd_same (H := upd H2 N (.lst [.bl due, .bl due, .bl (!due), .bl (!due)])) (a := D) (o := .lst [])
    refine lc_list (xs := [.bl due, .bl due, .bl (!due), .bl (!due)]) (fun i H' => H' D = some (.lst ((List.replicate i true).map V.bl)) ∧ Same (upd H2 N (.lst [.bl due, .bl due, .bl (!due), .bl (!due)])) H') ⟨eD, same_upd hDn⟩ (fun i H' _ h => .of (h.2 _ _ eN)) ?_ ?_
    · rintro i v H4 hi ⟨f1, f2⟩
      obtain ⟨b, rfl⟩ : ∃ b, v = V.bl b := by
        have := List.mem_of_getElem? hi
        simp only [List.mem_cons, List.not_mem_nil, or_false] at this
        rcases this with rfl | rfl | rfl | rfl <;> exact ⟨_, rfl⟩
      have hi4 : i < 4 := (List.getElem?_eq_some_iff.mp hi).1
      refine ⟨rfl, _, rfl, _, _, _, _, true, rfl, .ty "bool", .base (.bl b), kit_ty (by decide +kernel), _, f1, ?_, ?_, fun c o e => ?_⟩
      · rw [List.length_map, List.length_replicate]; exact small1000 (by omega)
      · rw [upd_same, List.replicate_succ', List.map_append]; rfl
      · rw [upd_ne (ne_of_none e hDn)]
        exact f2 c o e
    · rintro H4 ⟨f1, f2⟩
      have e14 := f2 _ _ (same_upd (o := .lst [.bl due, .bl due, .bl (!due), .bl (!due)]) hN _ _ e12)
      have e24 := f2 _ _ (same_upd (o := .lst [.bl due, .bl due, .bl (!due), .bl (!due)]) hN _ _ e2)
      refine ⟨D, List.replicate 4 true, rfl, .of f1, _, rfl, ?_⟩
      refine iteEq (by decide) ?_
      have r1 : PyData.eqv (.list [.bool due, .bool due]) (.list [.bool due, .bool due]) = true := by cases due <;> decide
      have r2 : PyData.eqv (.list [.bool (!due), .bool (!due)]) (.list [.bool (!due), .bool (!due)]) = true := by cases due <;> decide
      refine ⟨_, rfl, _, rfl, _, rfl, (by show 2 ≤ sizeLine; decide), fun L3 hL3 => ⟨_, _, dp_bools (same_upd hL3 _ _ e14), dp_bools upd_same, bools_ok _ _, bools_ok _ _, ?_⟩⟩
      rw [r1]
      refine ⟨_, rfl, ?_⟩
      refine iteT ?_
      have sL3 := same_upd (o := .lst [.bl due, .bl due]) hL3
      refine ⟨_, rfl, _, rfl, _, rfl, _, rfl, _, rfl, (by show 2 ≤ sizeLine; decide), fun L4 hL4 => ⟨_, _, dp_bools (same_upd hL4 _ _ (sL3 _ _ e24)), dp_bools upd_same, bools_ok _ _, bools_ok _ _, ?_⟩⟩
      rw [r2]
      exact k _ (((s3.trans f2).trans sL3).trans (same_upd hL4))
/-- a Counted, its lists apart from the deck -/
def CnD (C : Addr) (H : Hp) (d g c : Addr) (F P : List Int) : Prop := ∃ dx p f, H c = some (.ins C dx (cfl p f)) ∧ Lat H d g p (P.map V.int) ∧ Lat H d g f (F.map V.int)
theorem CnD.keep {C : Addr} {H H' : Hp} {d g c : Addr} {F P : List Int} (h : CnD C H d g c F P) (hD : Deck H d g) (k : Kd d g H H') : CnD C H' d g c F P := by
  obtain ⟨dx, p, f, h1, h2, h3⟩ := h
  obtain ⟨gs, a, m, g1, g2, _⟩ := hD
  refine ⟨dx, p, f, k _ _ h1 ?_ ?_, h2.keep k, h3.keep k⟩
  · intro z; rw [z, g1] at h1; cases h1
  · intro z; rw [z, g2] at h1; cases h1
theorem mkC {C : Addr} {H : Hp} {f p : Addr} {h r : List Int} {R : Addr → Hp → Prop} {E : XK} (hf : H f = some (.lst (h.map V.int))) (hp : H p = some (.lst (r.map V.int))) (hl : h.length ≤ 900) (ok : RowOk r)
    (k : ∀ (x dx q F : Addr) (H' : Hp), Same H H' → H q = none → H F = none → H' x = some (.ins C dx (cfl q F)) → H' q = some (.lst ((trim r).map V.int)) → H' F = some (.lst ((needL h (trim r)).map V.int)) → R x H') :
    ∀ x dx, H x = none → H dx = none → dx ≠ x → sp_cinit K C [.ref x, .ref f, .ref p] (upd (upd H dx (.own x)) x (.ins C dx [])) (fun v H' => v = V.non ∧ R x H') E := by
  have sq : ∀ {x dx b : Addr} {o : HO}, H x = none → H dx = none → H b = some o → (upd (upd H dx (.own x)) x (.ins C dx [])) b = some o := fun hx hdx e => by
    rw [upd_ne (ne_of_none e hx), upd_ne (ne_of_none e hdx)]; exact e
  refine fun x dx hx hdx ne => ⟨x, dx, f, p, h, r, rfl, upd_same, sq hx hdx hf, sq hx hdx hp, hl, ok, fun q F H2 fq fF ex eq eF kp => ⟨rfl, ?_⟩⟩
  have s2 : Same H H2 := Same.made hx hdx kp
  have free : ∀ {p : Addr}, (upd (upd H dx (.own x)) x (.ins C dx [])) p = none → H p = none := fun {p} f => by
    cases h : H p with
    | none => rfl
    | some o =>
      rw [sq hx hdx h] at f
      cases f
  exact k x dx q F H2 s2 (free fq) (free fF) ex eq eF
theorem CnD.of {C : Addr} {H0 H : Hp} {d g x dx q F : Addr} {Ps Fs : List Int} (hD : Deck H0 d g) (fq : H0 q = none) (fF : H0 F = none) (ex : H x = some (.ins C dx (cfl q F))) (eq : H q = some (.lst (Ps.map V.int))) (eF : H F = some (.lst (Fs.map V.int))) : CnD C H d g x Fs Ps :=
  ⟨dx, q, F, ex, ⟨eq, (hD.new fq).1, (hD.new fq).2⟩, ⟨eF, (hD.new fF).1, (hD.new fF).2⟩⟩
theorem CnD.i {C : Addr} {H : Hp} {d g c : Addr} {F P : List Int} (h : CnD C H d g c F P) : CnI C H c F P := by
  obtain ⟨dx, p, f, h1, h2, h3⟩ := h
  exact ⟨dx, p, f, h1, h2.at_, h3.at_⟩
theorem map_snoc_ref (us : List Addr) (U : Addr) : (us ++ [U]).map V.ref = us.map V.ref ++ [V.ref U] := by rw [List.map_append]; rfl
/-- the tuple at u: first numbers and a row, apart from the deck and R -/
def RowD (H : Hp) (d g R u : Addr) (n : Nat) (hs r : List Int) : Prop := ∃ p q, H u = some (.tup [.ref p, .ref q]) ∧ Lat H d g p (hs.map V.int) ∧ p ≠ R ∧ Lat H d g q (r.map V.int) ∧ q ≠ R ∧ hs.length ≤ 60 ∧ r.length ≤ 60 ∧ Sz (700 + n) r
theorem RowD.mono {H : Hp} {d g R u : Addr} {n m : Nat} {hs r : List Int} (h : RowD H d g R u n hs r) (hm : n ≤ m) : RowD H d g R u m hs r := by
  obtain ⟨p, q, h1, h2, n2, h3, n3, h4, h5, h6⟩ := h
  exact ⟨p, q, h1, h2, n2, h3, n3, h4, h5, h6.mono (by omega)⟩
theorem RowD.kr {H H' : Hp} {d g R u : Addr} {n : Nat} {hs r : List Int} {xs : List V} (h : RowD H d g R u n hs r) (hD : Deck H d g) (hR : H R = some (.lst xs)) (k : ∀ b o, H b = some o → b ≠ d → b ≠ g → b ≠ R → H' b = some o) : RowD H' d g R u n hs r := by
  obtain ⟨p, q, h1, h2, n2, h3, n3, h4⟩ := h
  refine ⟨p, q, k _ _ h1 ?_ ?_ ?_, ⟨k _ _ h2.at_ h2.nd h2.ng n2, h2.nd, h2.ng⟩, n2, ⟨k _ _ h3.at_ h3.nd h3.ng n3, h3.nd, h3.ng⟩, n3, h4⟩
  · obtain ⟨gs, a, m, g1, g2, _⟩ := hD
    intro z; rw [z, g1] at h1; cases h1
  · obtain ⟨gs, a, m, g1, g2, _⟩ := hD
    intro z; rw [z, g2] at h1; cases h1
  · intro z; rw [z, hR] at h1; cases h1
/-- a Counted, its lists apart from the deck and from D -/
def CnX (C : Addr) (H : Hp) (d g D c : Addr) (F P : List Int) : Prop := ∃ dx p f, H c = some (.ins C dx (cfl p f)) ∧ Lat H d g p (P.map V.int) ∧ p ≠ D ∧ Lat H d g f (F.map V.int) ∧ f ≠ D
theorem CnX.cn {C : Addr} {H : Hp} {d g D c : Addr} {F P : List Int} (h : CnX C H d g D c F P) : CnD C H d g c F P := by
  obtain ⟨dx, p, f, h1, h2, _, h3, _⟩ := h
  exact ⟨dx, p, f, h1, h2, h3⟩
theorem CnX.up {C : Addr} {H H' : Hp} {d g D c : Addr} {F P : List Int} {xs ys : List V} (h : CnX C H d g D c F P) (s : Same H H') (hd : H' D = some (.lst xs)) : CnX C (upd H' D (.lst ys)) d g D c F P := by
  obtain ⟨dx, p, f, h1, h2, n2, h3, n3⟩ := h
  have cD : c ≠ D := ne_of (s _ _ h1) hd (by intro z; cases z)
  exact ⟨dx, p, f, by rw [upd_ne cD]; exact s _ _ h1, ⟨by rw [upd_ne n2]; exact s _ _ h2.at_, h2.nd, h2.ng⟩, n2, ⟨by rw [upd_ne n3]; exact s _ _ h3.at_, h3.nd, h3.ng⟩, n3⟩
theorem tup_ok (r s : List Int) : SeqAt.shaped (.tuple [.list (r.map PyData.int), .list (s.map PyData.int)]) = true := by
  unfold SeqAt.shaped
  rw [Bool.and_eq_true]
  have h1 := depth_ints r
  have h2 := depth_ints s
  constructor
  · show (PyData.canLayAll0 (r.map PyData.int) && (PyData.canLayAll0 (s.map PyData.int) && true)) = true
    rw [lay_ints, lay_ints]; rfl
  · refine decide_eq_true ?_
    simp only [PyData.depth, PyData.depthAll]
    omega
theorem due_eq (a c : List Int) (b e : List Int) : PyData.eqv (.tuple [.list ((needL a b).map PyData.int), .list ((trim b).map PyData.int)]) (.tuple [.list ((needL c e).map PyData.int), .list ((trim e).map PyData.int)]) = (decide (needL a (trim b) = needL c (trim e)) && decide (trim b = trim e)) := by
  show (PyData.eqv (.list ((needL a b).map PyData.int)) (.list ((needL c e).map PyData.int)) && (PyData.eqv (.list ((trim b).map PyData.int)) (.list ((trim e).map PyData.int)) && true)) = _
  rw [eqv_ints, eqv_ints, Bool.and_true, need_trim, need_trim]
def sp_law (K : PySem.W.Frag) : Sp := fun vs H Q _ => ∃ (a : Addr) (ns : List Int), vs = [.ref a] ∧ SqL K H a (ns.map V.int) ∧ ns.length ≤ 63 ∧ ∀ H', Q (.bl true) H'
abbrev spLaw := sp_law
set_option maxHeartbeats 1600000 in
theorem ok_law (T : Tx K w mg) : FnOk P w K mg base CX0 8 T.f_law T.d_law ["script"] (sp_law K) := by
  refine T.F_law.ok sc_law (fun vs H Q E h => ?_) (fun cdv A outer s H vs Q E hr h => ?_)
  · obtain ⟨a, ns, rfl, _⟩ := h
    rfl
  · obtain ⟨a, ns, rfl, hS, hl, k⟩ := h
    refine ⟨_,
    (pss_cons
      (ps_set (i := 1) sc_law.nd rfl (.inl rfl) (pe_call (ok_law_deck T) (hr.mono (by decide)) (by rfl) T.g_law_deck T.F_law_deck.kp T.b_law_deck .nil pass0 (pa_cons (pv 0) pa_nil)))
    (pss_cons
      (ps_set (i := 2) sc_law.nd rfl (.inl rfl) (pe_lst (pa_cons (pe_call (ok_law_lists T) (hr.mono (by decide)) (by rfl) T.g_law_lists T.F_law_lists.kp T.b_law_lists .nil pass0 (pa_cons (pv 1) (pa_cons pe_int pa_nil))) pa_nil)))
    (pss_cons
      (ps_for PassesOwn.never rfl (pi_range1 (by rfl) T.m_range (pa_cons (pe_op op_add pe_int (pe_call (ok_law_draw T) (hr.mono (by decide)) (by rfl) T.g_law_draw T.F_law_draw.kp T.b_law_draw .nil pass0 (pa_cons (pv 1) (pa_cons pe_int pa_nil)))) pa_nil)) (pg_name (i := 3) sc_law.nd rfl (.inl rfl))
        (pss_cons
          (ps_asg (pe_ix ix_list (pv 2) (pe_call (ok_law_draw T) (hr.mono (by decide)) (by rfl) T.g_law_draw T.F_law_draw.kp T.b_law_draw .nil pass0 (pa_cons (pv 1) (pa_cons (pe_callB call_len_seq (by rfl) T.m_len (by decide +kernel) (pa_cons (pv 2) pa_nil)) pa_nil))) (fun _ _ => rfl)) (pg_tup (by rfl) (pgs_cons (pg_name (i := 4) sc_law.nd rfl (.inl rfl)) (pgs_cons (pg_name (i := 5) sc_law.nd rfl (.inl rfl)) pgs_nil))))
        (pss_one
          (ps_if (pt_cmpR op_eq (pe_call (ok_law_draw T) (hr.mono (by decide)) (by rfl) T.g_law_draw T.F_law_draw.kp T.b_law_draw .nil pass0 (pa_cons (pv 1) (pa_cons pe_int pa_nil))) pe_int (nomark _))
            (pss_one
              (ps_expr (pe_bm PySem.F.plainAttrs_list PySem.F.slot_list_append PySem.F.type_list_append mt_append (pv 2) (pa_cons (pe_call (ok_law_lists T) (hr.mono (by decide)) (by rfl) T.g_law_lists T.F_law_lists.kp T.b_law_lists .nil pass0 (pa_cons (pv 1) (pa_cons pe_int pa_nil))) pa_nil))))
            (pss_one
              (ps_expr (pe_bm PySem.F.plainAttrs_list PySem.F.slot_list_append PySem.F.type_list_append mt_append (pv 2) (pa_cons (pe_call (ok_law_changed T) (hr.mono (by decide)) (by rfl) T.g_law_changed T.F_law_changed.kp T.b_law_changed .nil pass0 (pa_cons (pv 1) (pa_cons (pv 4) (pa_cons (pv 5) pa_nil)))) pa_nil))))))))
    (pss_cons
      (ps_setLc (i := 6) (own := [("numbers", 4), ("row", 5)]) (g := gTup K 2 (gCons (gName 4) (gCons (gName 5) gNil))) rfl sc_law.nd rfl rfl (sw_true rfl rfl rfl (by decide +kernel)) (pi_list (pv 2)) (blkOk_by (N := ["script", "deck", "data", "k", "numbers", "row", "made", "one", "two", "left", "right", "thing", "told"]) (sc := defScope s_law) (own := [("numbers", 4), ("row", 5)]) (by decide +kernel)) (fun _ _ _ _ _ => (pg_tupK (K := K) rfl (by rfl) (pgs_cons (pg_name (i := 4) sc_law.nd rfl (.inl rfl)) (pgs_cons (pg_name (i := 5) sc_law.nd rfl (.inl rfl)) pgs_nil)))) (fun _ _ _ _ _ => pts_nil) (fun _ _ _ _ _ => (pe_make T.mk_Counted (ok_Counted_init T) (hr.mono (by decide)) (by rfl) T.mg_Counted T.b_Counted_init .nil pass0 (pa_cons (pe_callTy (T := "list") (r := rList K) call_list_of (by rfl) T.m_list (by decide +kernel) (pa_cons (pv 4) pa_nil)) (pa_cons (pe_callTy (T := "list") (r := rList K) call_list_of (by rfl) T.m_list (by decide +kernel) (pa_cons (pv 5) pa_nil)) pa_nil)))))
    (pss_cons
      (ps_for PassesOwn.never rfl (pi_list (pe_op op_rep (pe_call (ok_law_order T) (hr.mono (by decide)) (by rfl) T.g_law_order T.F_law_order.kp T.b_law_order .nil pass0 (pa_cons (pv 1) (pa_cons (pe_callB call_len_seq (by rfl) T.m_len (by decide +kernel) (pa_cons (pv 6) pa_nil)) pa_nil))) pe_int)) (pg_name (i := 7) sc_law.nd rfl (.inl rfl))
        (pss_cons
          (ps_for PassesOwn.never rfl (pi_list (pe_call (ok_law_order T) (hr.mono (by decide)) (by rfl) T.g_law_order T.F_law_order.kp T.b_law_order .nil pass0 (pa_cons (pv 1) (pa_cons (pe_callB call_len_seq (by rfl) T.m_len (by decide +kernel) (pa_cons (pv 6) pa_nil)) pa_nil)))) (pg_name (i := 8) sc_law.nd rfl (.inl rfl))
            (pss_cons
              (ps_set (i := 9) sc_law.nd rfl (.inl rfl) (pe_tup (pa_cons (pe_call (ok_law_needed T) (hr.mono (by decide)) (by rfl) T.g_law_needed T.F_law_needed.kp T.b_law_needed .nil pass0 (pa_cons (pe_ix ix_tup (pe_ix ix_list (pv 2) (pv 7) (fun _ _ => rfl)) pe_int (fun _ _ => rfl)) (pa_cons (pe_ix ix_tup (pe_ix ix_list (pv 2) (pv 7) (fun _ _ => rfl)) pe_int (fun _ _ => rfl)) pa_nil))) (pa_cons (pe_call (ok_law_trimmed T) (hr.mono (by decide)) (by rfl) T.g_law_trimmed T.F_law_trimmed.kp T.b_law_trimmed .nil pass0 (pa_cons (pe_ix ix_tup (pe_ix ix_list (pv 2) (pv 7) (fun _ _ => rfl)) pe_int (fun _ _ => rfl)) pa_nil)) pa_nil))))
            (pss_cons
              (ps_set (i := 10) sc_law.nd rfl (.inl rfl) (pe_tup (pa_cons (pe_call (ok_law_needed T) (hr.mono (by decide)) (by rfl) T.g_law_needed T.F_law_needed.kp T.b_law_needed .nil pass0 (pa_cons (pe_ix ix_tup (pe_ix ix_list (pv 2) (pv 8) (fun _ _ => rfl)) pe_int (fun _ _ => rfl)) (pa_cons (pe_ix ix_tup (pe_ix ix_list (pv 2) (pv 8) (fun _ _ => rfl)) pe_int (fun _ _ => rfl)) pa_nil))) (pa_cons (pe_call (ok_law_trimmed T) (hr.mono (by decide)) (by rfl) T.g_law_trimmed T.F_law_trimmed.kp T.b_law_trimmed .nil pass0 (pa_cons (pe_ix ix_tup (pe_ix ix_list (pv 2) (pv 8) (fun _ _ => rfl)) pe_int (fun _ _ => rfl)) pa_nil)) pa_nil))))
            (pss_one
              (ps_if (pt_not (pt_val (pe_call (ok_law_compared T) (hr.mono (by decide)) (by rfl) T.g_law_compared T.F_law_compared.kp T.b_law_compared .nil pass0 (pa_cons (pe_ix ix_list (pv 6) (pv 7) (fun _ _ => rfl)) (pa_cons (pe_ix ix_list (pv 6) (pv 8) (fun _ _ => rfl)) (pa_cons (pe_cmpR (op_eqD hr.units) (pv 9) (pv 10) (nomark _)) pa_nil))))))
                (pss_one
                  (ps_ret pe_bl))
                pss_nil)))))
        (pss_cons
          (ps_asg (pe_ix ix_list (pv 2) (pv 7) (fun _ _ => rfl)) (pg_tup (by rfl) (pgs_cons (pg_name (i := 4) sc_law.nd rfl (.inl rfl)) (pgs_cons (pg_name (i := 5) sc_law.nd rfl (.inl rfl)) pgs_nil))))
        (pss_cons
          (ps_for PassesOwn.never rfl (pi_list (pe_lst (pa_cons pe_non (pa_cons pe_int (pa_cons (pe_ixOwn T.me_Counted_getitem T.fn_Counted_getitem (ok_Counted_getitem T) (hr.mono (by decide)) T.b_Counted_getitem (fun σ => passLS σ) (pe_ix ix_list (pv 6) (pv 7) (fun _ _ => rfl)) pe_int) (pa_cons pe_str (pa_cons (pe_lst pa_nil) (pa_cons (pv 4) (pa_cons (pv 5) (pa_cons (pe_tup (pa_cons (pv 4) (pa_cons (pv 5) pa_nil))) (pa_cons (pe_prop (pe_ix ix_list (pv 6) (pv 7) (fun _ _ => rfl)) T.cl_Counted T.pr_Counted_poly (ok_Counted_poly T) (hr.mono (by decide)) T.b_Counted_poly .nil pass0 (by rfl)) pa_nil))))))))))) (pg_name (i := 11) sc_law.nd rfl (.inl rfl))
            (pss_one
              (ps_if (pt_not (pt_val (pe_call (ok_law_compared T) (hr.mono (by decide)) (by rfl) T.g_law_compared T.F_law_compared.kp T.b_law_compared .nil pass0 (pa_cons (pe_ix ix_list (pv 6) (pv 7) (fun _ _ => rfl)) (pa_cons (pv 11) (pa_cons pe_bl pa_nil))))))
                (pss_one
                  (ps_ret pe_bl))
                pss_nil)))
        (pss_cons
          (ps_set (i := 12) sc_law.nd rfl (.inl rfl) (pe_prop (pe_ix ix_list (pv 6) (pv 7) (fun _ _ => rfl)) T.cl_Counted T.pr_Counted_firsts (ok_Counted_firsts T) (hr.mono (by decide)) T.b_Counted_firsts .nil pass0 (by rfl)))
        (pss_cons
          (ps_expr (pe_bm PySem.F.plainAttrs_list PySem.F.slot_list_append PySem.F.type_list_append mt_append (pv 12) (pa_cons pe_int pa_nil)))
        (pss_cons
          (ps_set (i := 12) sc_law.nd rfl (.inl rfl) (pe_prop (pe_ix ix_list (pv 6) (pv 7) (fun _ _ => rfl)) T.cl_Counted T.pr_Counted_poly (ok_Counted_poly T) (hr.mono (by decide)) T.b_Counted_poly .nil pass0 (by rfl)))
        (pss_one
          (ps_expr (pe_bm PySem.F.plainAttrs_list PySem.F.slot_list_append PySem.F.type_list_append mt_append (pv 12) (pa_cons pe_int pa_nil)))))))))))
    (pss_one
      (ps_ret pe_bl))))))), ?_⟩
    refine ⟨_, rfl, a, ns, rfl, hS, hl, fun d g H1 s1 hD1 => ?_⟩
    refine ⟨_, rfl, d, g, 38, rfl, hD1, by decide, by decide, fun u0 p0 q0 hs0 r0 H2 s2 fp0 fq0 eu0 lp0 lq0 szh0 szr0 hl0 rl0 => ⟨(by show 1 ≤ sizeLine; decide), fun R hR => ?_⟩⟩
    have sR := same_upd (o := .lst ([u0].map V.ref)) hR
    have eR := upd_same (H := H2) (a := R) (o := .lst ([u0].map V.ref))
    have dR := s2.dk.new hR
    have hD3 := s2.dk.same sR
    have row0 : RowD (upd H2 R (.lst ([u0].map V.ref))) d g R u0 0 hs0 r0 := ⟨p0, q0, sR _ _ eu0, lp0.keep (Same.kd sR), ne_of_none lp0.at_ hR, lq0.keep (Same.kd sR), ne_of_none lq0.at_ hR, hl0, rl0, szr0⟩
    show tSeq _ _ _ _ (upd H2 R (.lst ([u0].map V.ref)))
    generalize upd H2 R (.lst ([u0].map V.ref)) = H3 at *
    clear sR hR s2 s1 hD1 fp0 fq0 eu0 lp0 lq0 szh0 szr0 hl0 rl0
    refine ⟨_, rfl, d, g, 4, rfl, hD3, by decide, by decide +kernel, fun n H4 n0 n1 hD4 k4 => ⟨_, _, rfl, rfl, _, rfl, by omega, by omega, for_range (n := _) (fun i σ H' => ∃ (us : List Addr) (x3 x4 x5 : Option V), us.length = 1 + i ∧ Deck H' d g ∧ H' R = some (.lst (us.map V.ref)) ∧ (∀ u ∈ us, ∃ hs r, RowD H' d g R u i hs r) ∧
      σ = [some (.ref a), some (.ref d), some (.ref R), x3, x4, x5, none, none, none, none, none, none, none]) ⟨[u0], none, none, none, rfl, hD4, k4 _ _ eR dR.1 dR.2, (fun u hu => by
        rw [List.mem_singleton.mp hu]
        exact ⟨hs0, r0, row0.kr hD3 eR fun b o e n1 n2 _ => k4 b o e n1 n2⟩), rfl⟩ ?_ ?_⟩⟩
    · clear hD4 k4 row0 eR hD3 H4 H3
      rintro i σ H1 hi ⟨us, x3, x4, x5, ul, hD1, eR1, rows, rfl⟩
      have hi4 : i < 4 := by omega
      refine ⟨_, rfl, _, rfl, _, rfl, R, _, rfl, .inl (.of eR1), d, g, _, rfl, hD1, ?_, ?_, fun w H2 w0 w1 hD2 k2 => ?_⟩
      · rw [List.length_map]; omega
      · exact small_log (by rw [List.length_map]; omega)
      rw [List.length_map] at w1
      obtain ⟨j, rfl⟩ := Int.eq_ofNat_of_zero_le w0
      have hj : j < us.length := by omega
      obtain ⟨hs, r, rw1⟩ := rows _ (List.getElem_mem hj)
      have rw2 := rw1.kr hD1 eR1 fun b o e n1 n2 _ => k2 b o e n1 n2
      have gu : (us.map V.ref)[j]? = some (V.ref us[j]) := by rw [List.getElem?_map, List.getElem?_eq_getElem hj]; rfl
      have eR2 := k2 _ _ eR1 dR.1 dR.2
      obtain ⟨p, q, eu, lp, np, lq, nq, hl60, rl60, szr⟩ := rw2
      refine ⟨R, _, _, V.ref us[j], rfl, rfl, .of eR2, at_of (j := j) (by omega) gu, us[j], _, rfl, .of eu, rfl, _, _, rfl, _, _, rfl, rfl, ?_⟩
      refine ⟨_, rfl, d, g, 6, rfl, hD2, by decide, by decide +kernel, fun w2 H3 _ _ hD3 k3 => ⟨rfl, _, rfl, ?_⟩⟩
      have eR3 := k3 _ _ eR2 dR.1 dR.2
      have rows3 : ∀ u ∈ us, ∃ hs r, RowD H3 d g R u i hs r := fun u hu => by
        obtain ⟨hs', r', h⟩ := rows u hu
        exact ⟨hs', r', h.kr hD1 eR1 fun b o e n1 n2 _ => k3 b o (k2 b o e n1 n2) n1 n2⟩
      have fin : ∀ (u p q : Addr) (hs r : List Int) (H4 : Hp), Std H3 H4 d g → H4 u = some (.tup [.ref p, .ref q]) → Lat H4 d g p (hs.map V.int) → p ≠ R → Lat H4 d g q (r.map V.int) → q ≠ R → hs.length ≤ 60 → r.length ≤ 60 → Sz (700 + (i + 1)) r →
          (us ++ [u]).length = 1 + (i + 1) ∧ Deck (upd H4 R (.lst ((us ++ [u]).map V.ref))) d g ∧ (upd H4 R (.lst ((us ++ [u]).map V.ref))) R = some (.lst ((us ++ [u]).map V.ref)) ∧ (∀ v ∈ us ++ [u], ∃ hs r, RowD (upd H4 R (.lst ((us ++ [u]).map V.ref))) d g R v (i + 1) hs r) := by
        intro u p q hs r H4 s4 eu lp np lq nq hl rl sz
        have eR4 := s4.kd _ _ eR3 dR.1 dR.2
        refine ⟨by rw [List.length_append, ul]; rfl, ?_, upd_same, fun v hv => ?_⟩
        · obtain ⟨gs, a0, m0, g1, g2, g3⟩ := s4.dk
          exact ⟨gs, a0, m0, by rw [upd_ne dR.1.symm]; exact g1, by rw [upd_ne dR.2.symm]; exact g2, g3⟩
        · rcases List.mem_append.mp hv with h | h
          · obtain ⟨hs', r', h⟩ := rows3 v h
            exact ⟨hs', r', (h.kr hD3 eR3 fun b o e n1 n2 n3 => by rw [upd_ne n3]; exact s4.kd b o e n1 n2).mono (by omega)⟩
          · rw [List.mem_singleton.mp h]
            have uR : u ≠ R := ne_of eu eR4 (by intro z; cases z)
            exact ⟨hs, r, p, q, by rw [upd_ne uR]; exact eu, ⟨by rw [upd_ne np]; exact lp.at_, lp.nd, lp.ng⟩, np, ⟨by rw [upd_ne nq]; exact lq.at_, lq.nd, lq.ng⟩, nq, hl, rl, sz⟩
      have fresh : ∀ {x : Addr}, H3 x = none → x ≠ R := fun f z => by rw [z, eR3] at f; cases f
      refine ite2 (fun _ => ?_) (fun _ => ?_)
      · refine ⟨_, rfl, .inl ⟨rfl, _, .of eR3⟩, _, rfl, d, g, 38, rfl, hD3, by decide, by decide, fun u p q hs r H4 s4 fp fq eu lp lq szh szr hl rl => ⟨R, _, _, rfl, rfl, s4.kd _ _ eR3 dR.1 dR.2, ?_, ?_⟩⟩
        · rw [List.length_map]; exact small1000 (by omega)
        · rw [← map_snoc_ref]
          obtain ⟨f1, f2, f3, f4⟩ := fin u p q hs r H4 s4 eu lp (fresh fp) lq (fresh fq) hl rl (szr.mono (by omega))
          exact ⟨_, _, _, _, f1, f2, f3, f4, rfl⟩
      · refine ⟨_, rfl, .inl ⟨rfl, _, .of eR3⟩, _, rfl, _, rfl, _, rfl, d, g, p, q, hs, r, 700 + i, rfl, hD3, lp.keep k3, lq.keep k3, hl60, rl60, szr, by omega, by omega, fun u p' q' hs' r' H4 s4 fu op oq eu lp' lq' hl rl sz => ⟨R, _, _, rfl, rfl, s4.kd _ _ eR3 dR.1 dR.2, ?_, ?_⟩⟩
        · rw [List.length_map]; exact small1000 (by omega)
        · rw [← map_snoc_ref]
          obtain ⟨f1, f2, f3, f4⟩ := fin u p' q' hs' r' H4 s4 eu lp' (by rcases op with rfl | h; exact np; exact fresh h) lq' (by rcases oq with rfl | h; exact nq; exact fresh h) hl rl sz
          exact ⟨_, _, _, _, f1, f2, f3, f4, rfl⟩
    clear hD4 k4 row0 eR hD3 H4 H3
    rintro σ H1 ⟨us, x3, x4, x5, ul, hD1, eR1, rows, rfl⟩
    have ul5 : us.length ≤ 5 := by omega
    have ul1 : 1 ≤ us.length := by omega
    obtain ⟨f, hf⟩ : ∃ f : Nat → List Int × List Int, ∀ (j : Nat) (u : Addr), us[j]? = some u → RowD H1 d g R u 4 (f j).1 (f j).2 := by
      have h : ∀ j : Nat, ∃ x : List Int × List Int, ∀ u, us[j]? = some u → RowD H1 d g R u 4 x.1 x.2 := fun j => by
        cases e : us[j]? with
        | none => exact ⟨([], []), fun u h => by cases h⟩
        | some u =>
          obtain ⟨hs, r, h⟩ := rows u (List.mem_of_getElem? e)
          exact ⟨(hs, r), fun v hv => by cases hv; exact h.mono (by omega)⟩
      exact ⟨fun j => Classical.choose (h j), fun j => Classical.choose_spec (h j)⟩
    clear rows ul
    -- made
    refine ⟨_, rfl, R, rfl, ⟨_, .of eR1⟩, fun D hDn => ?_⟩
    refine lc_list (xs := us.map V.ref) (fun i H' => ∃ cs : List Addr, cs.length = i ∧ H' D = some (.lst (cs.map V.ref)) ∧ Same H1 H' ∧ ∀ j c, cs[j]? = some c → CnX T.C_Counted H' d g D c (needL (f j).1 (trim (f j).2)) (trim (f j).2)) ⟨[], rfl, upd_same, same_upd hDn, fun j c h => by cases h⟩ (fun i H' _ h => ?_) ?_ ?_
    · obtain ⟨_, _, _, h, _⟩ := h
      exact .of (h _ _ eR1)
    · rintro i v H2 hi ⟨cs, cl, eD, s2, cn⟩
      rw [List.getElem?_map] at hi
      obtain ⟨u, hu, rfl⟩ := Option.map_eq_some_iff.mp hi
      have hil := (List.getElem?_eq_some_iff.mp hu).1
      obtain ⟨p, q, eu, lp, np, lq, nq, hl, rl, sz⟩ := hf i u hu
      have rok : RowOk (f i).2 := sz.rowOk (by omega) (by omega) (by omega)
      refine ⟨u, _, rfl, .of (s2 _ _ eu), rfl, _, _, rfl, _, _, rfl, rfl, rfl, _, rfl, p, _, rfl, .inl (.of (s2 _ _ lp.at_)), fun G1 hG1 => ⟨_, rfl, q, _, rfl, .inl (.of (same_upd hG1 _ _ (s2 _ _ lq.at_))), fun G2 hG2 => ?_⟩⟩
      have sG1 := same_upd (o := .lst ((f i).1.map V.int)) hG1
      have sG2 := same_upd (o := .lst ((f i).2.map V.int)) hG2
      refine mkC (sG2 _ _ upd_same) upd_same (by omega) rok fun x dx cp cf H5 s5 fcp fcf ex ecp ecf => ?_
      have s3 := sG1.trans sG2
      have s4 := s3.trans s5
      have eD5 := s4 _ _ eD
      have hDk := hD1.same (s2.trans s3)
      have nP : cp ≠ D := fun z => by rw [z, s3 _ _ eD] at fcp; cases fcp
      have nF : cf ≠ D := fun z => by rw [z, s3 _ _ eD] at fcf; cases fcf
      refine ⟨cs.map V.ref, eD5, ?_, cs ++ [x], by rw [List.length_append, cl]; rfl, by rw [upd_same, map_snoc_ref], fun b o e => ?_, fun j c hc => ?_⟩
      · rw [List.length_map]; exact small1000 (by omega)
      · rw [upd_ne (ne_of_none e hDn)]
        exact s4 _ _ (s2 _ _ e)
      · rcases Nat.lt_or_ge j cs.length with h | h
        · rw [List.getElem?_append_left h] at hc
          exact (cn j c hc).up s4 eD5
        · rw [List.getElem?_append_right h] at hc
          have hj : j = i := by
            have := (List.getElem?_eq_some_iff.mp hc).1
            rw [List.length_singleton] at this
            omega
          subst hj
          rw [show j - cs.length = 0 by omega] at hc
          cases hc
          have cD : x ≠ D := ne_of ex eD5 (by intro z; cases z)
          exact ⟨dx, cp, cf, by rw [upd_ne cD]; exact ex, ⟨by rw [upd_ne nP]; exact ecp, (hDk.new fcp).1, (hDk.new fcp).2⟩, nP, ⟨by rw [upd_ne nF]; exact ecf, (hDk.new fcf).1, (hDk.new fcf).2⟩, nF⟩
    rintro H2 ⟨cs, cl, eD, s2, cnX⟩
    rw [List.length_map] at cl
    have hD2 := hD1.same s2
    have dD := hD1.new hDn
    have eR2 := s2 _ _ eR1
    have data : ∀ j, j < us.length → ∃ u p q, us[j]? = some u ∧ H2 u = some (.tup [.ref p, .ref q]) ∧ Lat H2 d g p ((f j).1.map V.int) ∧ Lat H2 d g q ((f j).2.map V.int) ∧ (f j).1.length ≤ 60 ∧ (f j).2.length ≤ 60 ∧ RowOk (f j).2 := fun j hj => by
      obtain ⟨p, q, eu, lp, np, lq, nq, hl, rl, sz⟩ := hf j us[j] (List.getElem?_eq_getElem hj)
      exact ⟨us[j], p, q, List.getElem?_eq_getElem hj, s2 _ _ eu, lp.keep (Same.kd s2), lq.keep (Same.kd s2), hl, rl, sz.rowOk (by omega) (by omega) (by omega)⟩
    have made : ∀ j, j < us.length → ∃ c, cs[j]? = some c ∧ CnD T.C_Counted H2 d g c (needL (f j).1 (trim (f j).2)) (trim (f j).2) := fun j hj => by
      have hj' : j < cs.length := by omega
      exact ⟨cs[j], List.getElem?_eq_getElem hj', (cnX j cs[j] (List.getElem?_eq_getElem hj')).cn⟩
    clear cnX hf s2 hDn hD1 eR1 H1
    -- all compared
    refine ⟨_, rfl, _, rfl, D, _, rfl, .inl (.of eD), d, g, _, rfl, hD2, ?_, fun q os H3 s3 fq eq n1 n2 oin ol ond => ⟨q, 2, _, rfl, rfl, eq, by decide, by decide, ?_, fun W hW => ⟨W, rfl, ⟨_, .of upd_same⟩, ?_⟩⟩⟩
    · rw [List.length_map]; omega
    · rw [List.length_map, ol, List.length_map]
      exact Nat.le_of_lt (small1000 (by show cs.length * 2 ≤ 1000; omega))
    have t4 : Std H2 (upd H3 W (.lst (List.replicate (2 : Int).toNat (os.map V.int)).flatten)) d g := s3.new hW
    have dW := s3.dk.new hW
    have eW := upd_same (H := H3) (a := W) (o := .lst (List.replicate (2 : Int).toNat (os.map V.int)).flatten)
    have inW : ∀ v ∈ (List.replicate (2 : Int).toNat (os.map V.int)).flatten, ∃ o : Nat, v = V.int (o : Int) ∧ o < us.length := fun v hv => by
      obtain ⟨l, hl, hv⟩ := List.mem_flatten.mp hv
      rw [List.eq_of_mem_replicate hl] at hv
      obtain ⟨o, ho, rfl⟩ := List.mem_map.mp hv
      obtain ⟨h1, h2⟩ := oin o ho
      rw [List.length_map] at h2
      obtain ⟨m, rfl⟩ := Int.eq_ofNat_of_zero_le h1
      exact ⟨m, rfl, by omega⟩
    generalize (List.replicate (2 : Int).toNat (os.map V.int)).flatten = ws at *
    generalize upd H3 W (.lst ws) = H4 at *
    clear hW ond ol oin n1 n2 eq fq s3 H3
    refine for_list (xs := ws) (fun i σ H' => Std H4 H' d g ∧ ∃ x3 x4 x5 x7 x8 x9 x10 x11 x12 : Option V, σ = [some (.ref a), some (.ref d), some (.ref R), x3, x4, x5, some (.ref D), x7, x8, x9, x10, x11, x12]) ⟨Std.refl t4.dk, _, _, _, _, _, _, _, _, _, rfl⟩ (fun i σ H' _ h => .of (h.1.kd _ _ eW dW.1 dW.2)) ?_ ?_
    · rintro i v σ H5 hi ⟨s5, x3, x4, x5, x7, x8, x9, x10, x11, x12, rfl⟩
      obtain ⟨o, rfl, ho⟩ := inW v (List.mem_of_getElem? hi)
      have t5 := t4.trans s5
      have eD5 := t5.kd _ _ eD dD.1 dD.2
      refine ⟨_, rfl, _, rfl, D, _, rfl, .inl (.of eD5), d, g, _, rfl, t5.dk, ?_, fun q2 os2 H6 s6 fq2 eq2 m1 m2 oin2 ol2 ond2 => ⟨q2, rfl, ⟨_, .of eq2⟩, ?_⟩⟩
      · rw [List.length_map]; omega
      have t6 := t5.trans s6
      refine for_list (xs := os2.map V.int) (fun i σ H' => Std H6 H' d g ∧ ∃ x8 x9 x10 : Option V, σ = [some (.ref a), some (.ref d), some (.ref R), x3, x4, x5, some (.ref D), some (.int (o : Int)), x8, x9, x10, x11, x12]) ⟨Std.refl s6.dk, _, _, _, rfl⟩ (fun i σ H' _ h => .of (h.1.kd _ _ eq2 m1 m2)) ?_ ?_
      · rintro i2 v2 σ H7 hi2 ⟨s7, x8, x9, x10, rfl⟩
        obtain ⟨z, hz, rfl⟩ := List.mem_map.mp (List.mem_of_getElem? hi2)
        obtain ⟨z1, z2⟩ := oin2 z hz
        rw [List.length_map] at z2
        obtain ⟨o2, rfl⟩ := Int.eq_ofNat_of_zero_le z1
        have ho2 : o2 < us.length := by omega
        have t7 := t6.trans s7
        have eR7 := t7.kd _ _ eR2 dR.1 dR.2
        obtain ⟨u, p, q, hu, eu, lp, lq, hl, rl, rok⟩ := data o ho
        obtain ⟨u2, p2, q2', hu2, eu2, lp2, lq2, hl2, rl2, rok2⟩ := data o2 ho2
        have gu : (us.map V.ref)[o]? = some (V.ref u) := by rw [List.getElem?_map, hu]; rfl
        have gu2 : (us.map V.ref)[o2]? = some (V.ref u2) := by rw [List.getElem?_map, hu2]; rfl
        have eu7 := Kd.tk t7.kd hD2 _ _ eu
        have eu27 := Kd.tk t7.kd hD2 _ _ eu2
        have lp7 := lp.keep t7.kd
        have lq7 := lq.keep t7.kd
        have lp27 := lp2.keep t7.kd
        have lq27 := lq2.keep t7.kd
        -- left
        refine ⟨_, rfl, _, rfl, R, _, _, V.ref u, rfl, rfl, .of eR7, at_of (j := o) (by omega) gu, u, _, _, V.ref p, rfl, rfl, .of eu7, atI_nat (j := 0) rfl, _, rfl, _, rfl, R, _, _, V.ref u, rfl, rfl, .of eR7, at_of (j := o) (by omega) gu, u, _, _, V.ref q, rfl, rfl, .of eu7, atI_nat (j := 1) rfl, p, q, (f o).1, (f o).2, rfl, lp7.at_, lq7.at_, by omega, rok, fun N1 H8 hN1 s8 eN1 => ?_⟩
        refine ⟨_, rfl, _, rfl, R, _, _, V.ref u, rfl, rfl, .of (s8 _ _ eR7), at_of (j := o) (by omega) gu, u, _, _, V.ref q, rfl, rfl, .of (s8 _ _ eu7), atI_nat (j := 1) rfl, q, (f o).2, rfl, .of (s8 _ _ lq7.at_), by omega, fun M1 hM1 => ⟨(by show 2 ≤ sizeLine; decide), fun X1 hX1 => ?_⟩⟩
        have eM1 := upd_same (H := H8) (a := M1) (o := .lst ((trim (f o).2).map V.int))
        have sM1 := same_upd (o := .lst ((trim (f o).2).map V.int)) hM1
        have sX1 := same_upd (o := .tup [.ref N1, .ref M1]) hX1
        have eX1 := upd_same (H := upd H8 M1 (.lst ((trim (f o).2).map V.int))) (a := X1) (o := .tup [.ref N1, .ref M1])
        have s9 := (s8.trans sM1).trans sX1
        have eN19 := (sM1.trans sX1) _ _ eN1
        have eM19 := sX1 _ _ eM1
        generalize upd (upd H8 M1 (.lst ((trim (f o).2).map V.int))) X1 (.tup [.ref N1, .ref M1]) = H9 at *
        clear s8 sM1 sX1 eN1 eM1 hN1 hM1 hX1
        -- right
        refine ⟨_, rfl, _, rfl, R, _, _, V.ref u2, rfl, rfl, .of (s9 _ _ eR7), at_of (j := o2) (by omega) gu2, u2, _, _, V.ref p2, rfl, rfl, .of (s9 _ _ eu27), atI_nat (j := 0) rfl, _, rfl, _, rfl, R, _, _, V.ref u2, rfl, rfl, .of (s9 _ _ eR7), at_of (j := o2) (by omega) gu2, u2, _, _, V.ref q2', rfl, rfl, .of (s9 _ _ eu27), atI_nat (j := 1) rfl, p2, q2', (f o2).1, (f o2).2, rfl, s9 _ _ lp27.at_, s9 _ _ lq27.at_, by omega, rok2, fun N2 H10 hN2 s10' eN2 => ?_⟩
        have s10 := s9.trans s10'
        refine ⟨_, rfl, _, rfl, R, _, _, V.ref u2, rfl, rfl, .of (s10 _ _ eR7), at_of (j := o2) (by omega) gu2, u2, _, _, V.ref q2', rfl, rfl, .of (s10 _ _ eu27), atI_nat (j := 1) rfl, q2', (f o2).2, rfl, .of (s10 _ _ lq27.at_), by omega, fun M2 hM2 => ⟨(by show 2 ≤ sizeLine; decide), fun X2 hX2 => ?_⟩⟩
        have eM2 := upd_same (H := H10) (a := M2) (o := .lst ((trim (f o2).2).map V.int))
        have sM2 := same_upd (o := .lst ((trim (f o2).2).map V.int)) hM2
        have sX2 := same_upd (o := .tup [.ref N2, .ref M2]) hX2
        have eX2 := upd_same (H := upd H10 M2 (.lst ((trim (f o2).2).map V.int))) (a := X2) (o := .tup [.ref N2, .ref M2])
        have s11' := (s10'.trans sM2).trans sX2
        have eN211 := (sM2.trans sX2) _ _ eN2
        have eM211 := sX2 _ _ eM2
        generalize upd (upd H10 M2 (.lst ((trim (f o2).2).map V.int))) X2 (.tup [.ref N2, .ref M2]) = H11 at *
        have s11 := s9.trans s11'
        have t11 := t7.same s11
        obtain ⟨c, hc, cn⟩ := made o ho
        obtain ⟨c2, hc2, cn2⟩ := made o2 ho2
        have gc : (cs.map V.ref)[o]? = some (V.ref c) := by rw [List.getElem?_map, hc]; rfl
        have gc2 : (cs.map V.ref)[o2]? = some (V.ref c2) := by rw [List.getElem?_map, hc2]; rfl
        have eD11 := t11.kd _ _ eD dD.1 dD.2
        refine ⟨_, rfl, _, rfl, D, _, _, V.ref c, rfl, rfl, .of eD11, at_of (j := o) (by omega) gc, _, rfl, _, rfl, D, _, _, V.ref c2, rfl, rfl, .of eD11, at_of (j := o2) (by omega) gc2, _, rfl, _, rfl,
          .tuple [.list ((needL (f o).1 (f o).2).map PyData.int), .list ((trim (f o).2).map PyData.int)], .tuple [.list ((needL (f o2).1 (f o2).2).map PyData.int), .list ((trim (f o2).2).map PyData.int)],
          .tup (.of (s11' _ _ eX1)) (.cons (.lst (.of (s11' _ _ eN19)) dp_ints) (.cons (.lst (.of (s11' _ _ eM19)) dp_ints) .nil)), .tup (.of eX2) (.cons (.lst (.of eN211) dp_ints) (.cons (.lst (.of eM211) dp_ints) .nil)), tup_ok _ _, tup_ok _ _,
          c, .ref c2, _, rfl, ⟨_, _, (cn.keep hD2 t11.kd).i, .inr ⟨c2, _, _, rfl, (cn2.keep hD2 t11.kd).i, due_eq _ _ _ _⟩⟩, fun H12 s12 => ⟨_, rfl, (s7.same s11).same s12, _, _, _, rfl⟩⟩
      · rintro σ H7 ⟨s7, x8, x9, x10, rfl⟩
        have t7 := t6.trans s7
        have eR7 := t7.kd _ _ eR2 dR.1 dR.2
        obtain ⟨u, p, q, hu, eu, lp, lq, hl, rl, rok⟩ := data o ho
        have gu : (us.map V.ref)[o]? = some (V.ref u) := by rw [List.getElem?_map, hu]; rfl
        have eu7 := Kd.tk t7.kd hD2 _ _ eu
        have lp7 := lp.keep t7.kd
        have lq7 := lq.keep t7.kd
        obtain ⟨c, hc, cn⟩ := made o ho
        have gc : (cs.map V.ref)[o]? = some (V.ref c) := by rw [List.getElem?_map, hc]; rfl
        have eD7 := t7.kd _ _ eD dD.1 dD.2
        refine ⟨_, rfl, _, rfl, R, _, _, V.ref u, rfl, rfl, .of eR7, at_of (j := o) (by omega) gu, u, _, rfl, .of eu7, rfl, _, _, rfl, _, _, rfl, rfl, ?_⟩
        obtain ⟨dx, cp, cf, ec7, lcp7, lcf7⟩ := cn.keep hD2 t7.kd
        have cr7 : CnR T.C_Counted H7 c (needL (f o).1 (trim (f o).2)) (trim (f o).2) := ⟨dx, cp, cf, ec7, lcp7.at_, lcf7.at_⟩
        refine ⟨_, rfl, _, rfl, D, _, _, V.ref c, rfl, rfl, .of eD7, at_of (j := o) (by omega) gc, c, dx, _, rfl, ec7, c, 0, _, _, rfl, cr7, rok.trim, by decide, fun _ H8 s8 => ?_, fun z => absurd z (by decide)⟩
        generalize numAt (needL (f o).1 (trim (f o).2)) (trim (f o).2) 0 = v0
        refine ⟨Nat.zero_le _, fun Z hZ => ⟨_, rfl, _, rfl, _, rfl, _, rfl, (by show 2 ≤ sizeLine; decide), fun X hX => ?_⟩⟩
        have sZ := same_upd (o := .lst []) hZ
        have sX := same_upd (o := .tup [.ref p, .ref q]) hX
        have dZ := (t7.same s8).dk.new hZ
        have eZ := sX _ _ (upd_same (H := H8) (a := Z) (o := .lst []))
        have eX := upd_same (H := upd H8 Z (.lst [])) (a := X) (o := .tup [.ref p, .ref q])
        have s9 := (s8.trans sZ).trans sX
        generalize upd (upd H8 Z (.lst [])) X (.tup [.ref p, .ref q]) = H9 at *
        refine ⟨_, rfl, _, rfl, D, _, _, V.ref c, rfl, rfl, .of (s9 _ _ eD7), at_of (j := o) (by omega) gc, c, dx, _, rfl, s9 _ _ ec7, c, dx, cp, cf, cp, _, rfl, s9 _ _ ec7, cfl_p cp cf, s9 _ _ lcp7.at_, fun U hU => ⟨(by show 9 ≤ sizeLine; decide), fun L hL => ⟨L, rfl, ⟨_, .of upd_same⟩, ?_⟩⟩⟩
        have t9 := t7.same s9
        have dU := t9.dk.new hU
        have sU := same_upd (o := .lst ((trim (f o).2).map V.int)) hU
        have eU := upd_same (H := H9) (a := U) (o := .lst ((trim (f o).2).map V.int))
        have t10 := t9.same sU
        have dL := t10.dk.new hL
        have sL := same_upd (o := .lst [V.non, .int 0, .int v0, .str (Str.ofString ""), .ref Z, .ref p, .ref q, .ref X, .ref U]) hL
        have eL := upd_same (H := upd H9 U (.lst ((trim (f o).2).map V.int))) (a := L) (o := .lst [V.non, .int 0, .int v0, .str (Str.ofString ""), .ref Z, .ref p, .ref q, .ref X, .ref U])
        have s11 := (s9.trans sU).trans sL
        have eZ11 := sL _ _ (sU _ _ eZ)
        have eX11 := sL _ _ (sU _ _ eX)
        have eU11 := sL _ _ eU
        generalize upd (upd H9 U (.lst ((trim (f o).2).map V.int))) L (.lst [V.non, .int 0, .int v0, .str (Str.ofString ""), .ref Z, .ref p, .ref q, .ref X, .ref U]) = H11 at *
        have t11 := t7.same s11
        have hD11 := t11.dk
        have lp11 := lp7.keep (Same.kd s11)
        have lq11 := lq7.keep (Same.kd s11)
        refine for_list (xs := [V.non, .int 0, .int v0, .str (Str.ofString ""), .ref Z, .ref p, .ref q, .ref X, .ref U]) (fun i σ H' => Std H11 H' d g ∧ ∃ x11 : Option V, σ = [some (.ref a), some (.ref d), some (.ref R), x3, some (.ref p), some (.ref q), some (.ref D), some (.int (o : Int)), x8, x9, x10, x11, x12]) ⟨Std.refl hD11, _, rfl⟩ (fun i σ H' _ h => .of (h.1.kd _ _ eL dL.1 dL.2)) ?_ ?_
        · rintro i v σ H12 hv ⟨s12, x11, rfl⟩
          have t12 := t11.trans s12
          have kind : Kind H12 v := by
            have hm := List.mem_of_getElem? hv
            simp only [List.mem_cons, List.not_mem_nil, or_false] at hm
            rcases hm with rfl | rfl | rfl | rfl | rfl | rfl | rfl | rfl | rfl
            · exact .inl rfl
            · exact .inr (.inl ⟨_, rfl⟩)
            · exact .inr (.inl ⟨_, rfl⟩)
            · exact .inr (.inr (.inl ⟨_, rfl⟩))
            · exact .inr (.inr (.inr (.inl ⟨Z, _, rfl, s12.kd _ _ eZ11 dZ.1 dZ.2⟩)))
            · exact .inr (.inr (.inr (.inl ⟨p, _, rfl, (lp11.keep s12.kd).at_⟩)))
            · exact .inr (.inr (.inr (.inl ⟨q, _, rfl, (lq11.keep s12.kd).at_⟩)))
            · exact .inr (.inr (.inr (.inr ⟨X, _, rfl, Kd.tk s12.kd hD11 _ _ eX11⟩)))
            · exact .inr (.inr (.inr (.inl ⟨U, _, rfl, s12.kd _ _ eU11 dU.1 dU.2⟩)))
          exact ⟨_, rfl, _, rfl, D, _, _, V.ref c, rfl, rfl, .of (t12.kd _ _ eD dD.1 dD.2), at_of (j := o) (by omega) gc, _, rfl, c, v, false, rfl, ⟨_, _, (cn.keep hD2 t12.kd).i, .inl ⟨kind, rfl⟩⟩, fun H13 s13 => ⟨_, rfl, s12.same s13, _, rfl⟩⟩
        · rintro σ H12 ⟨s12, x11, rfl⟩
          have t12 := t11.trans s12
          obtain ⟨dx, cp, cf, ec, lcp, lcf⟩ := cn.keep hD2 t12.kd
          have w12 : Std H4 H12 d g := ((s5.trans s6).trans s7).same s11 |>.trans s12
          have nl : (needL (f o).1 (trim (f o).2)).length ≤ 60 := by
            unfold needL
            rw [List.length_take]; omega
          have tl := trim_length (f o).2
          refine ⟨_, rfl, _, rfl, D, _, _, V.ref c, rfl, rfl, .of (t12.kd _ _ eD dD.1 dD.2), at_of (j := o) (by omega) gc, c, dx, _, rfl, ec, c, dx, cp, cf, cf, _, rfl, ec, cfl_f cp cf, lcf.at_, fun Y hY => ?_⟩
          have dY := w12.dk.new hY
          refine ⟨_, rfl, .inl ⟨rfl, _, .of upd_same⟩, Y, _, _, rfl, rfl, upd_same, ?_, ?_⟩
          · rw [List.length_map]; exact small1000 (by omega)
          have w13 := (w12.new (o := .lst ((needL (f o).1 (trim (f o).2)).map V.int)) hY).mut (o := .lst ((needL (f o).1 (trim (f o).2)).map V.int ++ [.int 3])) (w12.free hY) dY.1 dY.2
          generalize upd (upd H12 Y (.lst ((needL (f o).1 (trim (f o).2)).map V.int))) Y (.lst ((needL (f o).1 (trim (f o).2)).map V.int ++ [.int 3])) = H13 at *
          have t13 := t4.trans w13
          obtain ⟨dx, cp, cf, ec, lcp, lcf⟩ := cn.keep hD2 t13.kd
          refine ⟨_, rfl, _, rfl, D, _, _, V.ref c, rfl, rfl, .of (t13.kd _ _ eD dD.1 dD.2), at_of (j := o) (by omega) gc, c, dx, _, rfl, ec, c, dx, cp, cf, cp, _, rfl, ec, cfl_p cp cf, lcp.at_, fun Y2 hY2 => ?_⟩
          have dY2 := w13.dk.new hY2
          refine ⟨_, rfl, .inl ⟨rfl, _, .of upd_same⟩, Y2, _, _, rfl, rfl, upd_same, ?_, ?_⟩
          · rw [List.length_map]; exact small1000 (by omega)
          exact ⟨(w13.new (o := .lst ((trim (f o).2).map V.int)) hY2).mut (w13.free hY2) dY2.1 dY2.2, _, _, _, _, _, _, _, _, _, rfl⟩
    · rintro σ H5 _
      exact k _
end
theorem all_mk {l : PySem.W.OpenLaw} {w : World} {K : PySem.W.Frag} {h : Heap} {mg : Str → Option Value} {fa f_PlanError_init f_value_at f_without_zeros f_least_begin f_Counted_init f_Counted_begin f_Counted_firsts f_Counted_poly f_Counted_getitem f_Counted_eq f_law_deck f_law_draw f_law_great f_law_list f_law_value f_law_lists f_law_order f_law_needed f_law_trimmed f_law_changed f_law_compared f_law : Addr} (X : K.In h) (G : h.Ns mainGlobals mg) (hfa : mg "law" = some (.ref fa))
    {C_Counted : Addr}
    {C_InvalidNumber C_PlanError : Addr}
    {nm_InvalidNumber q_InvalidNumber : Str} {N_InvalidNumber : Addr} {bs_InvalidNumber : List Value} {sn_InvalidNumber : List Str} {sub_InvalidNumber : List Value} {ab_InvalidNumber : Bool} {col_InvalidNumber : Option Bool} {dd_InvalidNumber : Option Addr} {k0_InvalidNumber k1_InvalidNumber k2_InvalidNumber k3_InvalidNumber k5_InvalidNumber : Option Value}
    {od_PlanError_init an_PlanError_init : Option Addr} {sl_PlanError_init : Array (Option Value)} {oc_PlanError_init kV_PlanError_init dc_PlanError_init pm_PlanError_init cd_PlanError_init ct_PlanError_init : Value}
    {od_value_at an_value_at : Option Addr} {sl_value_at : Array (Option Value)} {oc_value_at kV_value_at dc_value_at pm_value_at cd_value_at ct_value_at : Value}
    {od_without_zeros an_without_zeros : Option Addr} {sl_without_zeros : Array (Option Value)} {oc_without_zeros kV_without_zeros dc_without_zeros pm_without_zeros cd_without_zeros ct_without_zeros : Value}
    {od_least_begin an_least_begin : Option Addr} {sl_least_begin : Array (Option Value)} {oc_least_begin kV_least_begin dc_least_begin pm_least_begin cd_least_begin ct_least_begin : Value}
    {od_Counted_init an_Counted_init : Option Addr} {sl_Counted_init : Array (Option Value)} {oc_Counted_init kV_Counted_init dc_Counted_init pm_Counted_init cd_Counted_init ct_Counted_init : Value}
    {od_Counted_begin an_Counted_begin : Option Addr} {sl_Counted_begin : Array (Option Value)} {oc_Counted_begin kV_Counted_begin dc_Counted_begin pm_Counted_begin cd_Counted_begin ct_Counted_begin : Value}
    {p_Counted_begin : Addr} {r_Counted_begin : List Value}
    {od_Counted_firsts an_Counted_firsts : Option Addr} {sl_Counted_firsts : Array (Option Value)} {oc_Counted_firsts kV_Counted_firsts dc_Counted_firsts pm_Counted_firsts cd_Counted_firsts ct_Counted_firsts : Value}
    {p_Counted_firsts : Addr} {r_Counted_firsts : List Value}
    {od_Counted_poly an_Counted_poly : Option Addr} {sl_Counted_poly : Array (Option Value)} {oc_Counted_poly kV_Counted_poly dc_Counted_poly pm_Counted_poly cd_Counted_poly ct_Counted_poly : Value}
    {p_Counted_poly : Addr} {r_Counted_poly : List Value}
    {od_Counted_getitem an_Counted_getitem : Option Addr} {sl_Counted_getitem : Array (Option Value)} {oc_Counted_getitem kV_Counted_getitem dc_Counted_getitem pm_Counted_getitem cd_Counted_getitem ct_Counted_getitem : Value}
    {od_Counted_eq an_Counted_eq : Option Addr} {sl_Counted_eq : Array (Option Value)} {oc_Counted_eq kV_Counted_eq dc_Counted_eq pm_Counted_eq cd_Counted_eq ct_Counted_eq : Value}
    {od_law_deck an_law_deck : Option Addr} {sl_law_deck : Array (Option Value)} {oc_law_deck kV_law_deck dc_law_deck pm_law_deck cd_law_deck ct_law_deck : Value}
    {od_law_draw an_law_draw : Option Addr} {sl_law_draw : Array (Option Value)} {oc_law_draw kV_law_draw dc_law_draw pm_law_draw cd_law_draw ct_law_draw : Value}
    {od_law_great an_law_great : Option Addr} {sl_law_great : Array (Option Value)} {oc_law_great kV_law_great dc_law_great pm_law_great cd_law_great ct_law_great : Value}
    {od_law_list an_law_list : Option Addr} {sl_law_list : Array (Option Value)} {oc_law_list kV_law_list dc_law_list pm_law_list cd_law_list ct_law_list : Value}
    {od_law_value an_law_value : Option Addr} {sl_law_value : Array (Option Value)} {oc_law_value kV_law_value dc_law_value pm_law_value cd_law_value ct_law_value : Value}
    {od_law_lists an_law_lists : Option Addr} {sl_law_lists : Array (Option Value)} {oc_law_lists kV_law_lists dc_law_lists pm_law_lists cd_law_lists ct_law_lists : Value}
    {od_law_order an_law_order : Option Addr} {sl_law_order : Array (Option Value)} {oc_law_order kV_law_order dc_law_order pm_law_order cd_law_order ct_law_order : Value}
    {od_law_needed an_law_needed : Option Addr} {sl_law_needed : Array (Option Value)} {oc_law_needed kV_law_needed dc_law_needed pm_law_needed cd_law_needed ct_law_needed : Value}
    {od_law_trimmed an_law_trimmed : Option Addr} {sl_law_trimmed : Array (Option Value)} {oc_law_trimmed kV_law_trimmed dc_law_trimmed pm_law_trimmed cd_law_trimmed ct_law_trimmed : Value}
    {od_law_changed an_law_changed : Option Addr} {sl_law_changed : Array (Option Value)} {oc_law_changed kV_law_changed dc_law_changed pm_law_changed cd_law_changed ct_law_changed : Value}
    {od_law_compared an_law_compared : Option Addr} {sl_law_compared : Array (Option Value)} {oc_law_compared kV_law_compared dc_law_compared pm_law_compared cd_law_compared ct_law_compared : Value}
    {od_law an_law : Option Addr} {sl_law : Array (Option Value)} {oc_law kV_law dc_law pm_law cd_law ct_law : Value}
    (aC_Counted : PySem.W.nsIn K mainGlobals "Counted" = some (some (.ref C_Counted)))
    (pg_Counted : PySem.W.plainGet K C_Counted Str.empty = true)
    (hd_Counted : PySem.W.hasDictIn K C_Counted = true)
    (po_Counted : PySem.W.plainOver K C_Counted = true)
    (sa_Counted : PySem.W.findIn K (.ref C_Counted) "__setattr__" = some (some (.builtin "object.__setattr__")))
    (ms_Counted : PySem.W.makesIn K C_Counted = true)
    (kc_Counted : PySem.W.keepIn K (.ref C_Counted) = true)
    (n_Counted_poly : PySem.W.findIn K (.ref C_Counted) "_poly" = some none)
    (n_Counted_firsts : PySem.W.findIn K (.ref C_Counted) "_firsts" = some none)
    (aC_InvalidNumber : PySem.W.nsIn K mainGlobals "InvalidNumber" = some (some (.ref C_InvalidNumber)))
    (eC_InvalidNumber : PySem.W.subIn K (.ref C_InvalidNumber) (.type "BaseException") = some true)
    (tC_InvalidNumber : PySem.W.typeIn K (.ref C_InvalidNumber) = some (.type "type"))
    (hC_InvalidNumber : PySem.W.hasDictIn K C_InvalidNumber = true)
    (xL_InvalidNumber : K.lookup C_InvalidNumber = some (excClassObj nm_InvalidNumber q_InvalidNumber C_InvalidNumber N_InvalidNumber bs_InvalidNumber [.ref C_PlanError, .type "ValueError", .type "Exception", .type "BaseException", .type "object"] true sn_InvalidNumber sub_InvalidNumber ab_InvalidNumber col_InvalidNumber dd_InvalidNumber k0_InvalidNumber k1_InvalidNumber k2_InvalidNumber k3_InvalidNumber k5_InvalidNumber "ValueError.__new__"))
    (sa_InvalidNumber : PySem.W.findIn K (.ref C_InvalidNumber) "__setattr__" = some (some (.builtin "object.__setattr__")))
    (ga_InvalidNumber : PySem.W.findIn K (.ref C_InvalidNumber) "__getattribute__" = some (some (.builtin "BaseException.__getattribute__")))
    (gt_InvalidNumber : PySem.W.findIn K (.ref C_InvalidNumber) "__getattr__" = some none)
    (nv_InvalidNumber : PySem.W.findIn K (.ref C_InvalidNumber) "value" = some none)
    (ic_InvalidNumber : PySem.W.findIn K (.ref C_InvalidNumber) "__init__" = some (some (.ref f_PlanError_init)))
    (kC_InvalidNumber : PySem.W.keepIn K (.ref C_InvalidNumber) = true)
    (aC_PlanError : PySem.W.nsIn K mainGlobals "PlanError" = some (some (.ref C_PlanError)))
    (eC_PlanError : PySem.W.subIn K (.ref C_PlanError) (.type "BaseException") = some true)
    (tC_PlanError : PySem.W.typeIn K (.ref C_PlanError) = some (.type "type"))
    (hC_PlanError : PySem.W.hasDictIn K C_PlanError = true)
    (ti : PySem.W.typeIn K (.ref f_PlanError_init) = some (.type "function"))
    (l_PlanError_init : K.lookup f_PlanError_init = some ⟨oc_PlanError_init, od_PlanError_init, .func (PySem.W.fnOf "__init__" "PlanError.__init__" (defArgs s_PlanError_init) (defBody s_PlanError_init) (defScope s_PlanError_init) .none kV_PlanError_init dc_PlanError_init pm_PlanError_init an_PlanError_init cd_PlanError_init ct_PlanError_init), sl_PlanError_init⟩)
    (c_PlanError_init : PySem.W.codeIn K cd_PlanError_init "PlanError.__init__" = true)
    (k_PlanError_init : PySem.W.keepIn K (.ref f_PlanError_init) = true)
    (a_value_at : PySem.W.nsIn K mainGlobals "value_at" = some (some (.ref f_value_at)))
    (l_value_at : K.lookup f_value_at = some ⟨oc_value_at, od_value_at, .func (PySem.W.fnOf "value_at" "value_at" (defArgs s_value_at) (defBody s_value_at) (defScope s_value_at) .none kV_value_at dc_value_at pm_value_at an_value_at cd_value_at ct_value_at), sl_value_at⟩)
    (c_value_at : PySem.W.codeIn K cd_value_at "value_at" = true)
    (k_value_at : PySem.W.keepIn K (.ref f_value_at) = true)
    (a_without_zeros : PySem.W.nsIn K mainGlobals "without_zeros" = some (some (.ref f_without_zeros)))
    (l_without_zeros : K.lookup f_without_zeros = some ⟨oc_without_zeros, od_without_zeros, .func (PySem.W.fnOf "without_zeros" "without_zeros" (defArgs s_without_zeros) (defBody s_without_zeros) (defScope s_without_zeros) .none kV_without_zeros dc_without_zeros pm_without_zeros an_without_zeros cd_without_zeros ct_without_zeros), sl_without_zeros⟩)
    (c_without_zeros : PySem.W.codeIn K cd_without_zeros "without_zeros" = true)
    (k_without_zeros : PySem.W.keepIn K (.ref f_without_zeros) = true)
    (a_least_begin : PySem.W.nsIn K mainGlobals "least_begin" = some (some (.ref f_least_begin)))
    (l_least_begin : K.lookup f_least_begin = some ⟨oc_least_begin, od_least_begin, .func (PySem.W.fnOf "least_begin" "least_begin" (defArgs s_least_begin) (defBody s_least_begin) (defScope s_least_begin) .none kV_least_begin dc_least_begin pm_least_begin an_least_begin cd_least_begin ct_least_begin), sl_least_begin⟩)
    (c_least_begin : PySem.W.codeIn K cd_least_begin "least_begin" = true)
    (k_least_begin : PySem.W.keepIn K (.ref f_least_begin) = true)
    (a_Counted_init : PySem.W.findIn K (.ref C_Counted) "__init__" = some (some (.ref f_Counted_init)))
    (i_Counted_init : PySem.W.isFn K (.ref f_Counted_init) = true)
    (l_Counted_init : K.lookup f_Counted_init = some ⟨oc_Counted_init, od_Counted_init, .func (PySem.W.fnOf "__init__" "Counted.__init__" (defArgs s_Counted_init) (defBody s_Counted_init) (defScope s_Counted_init) .none kV_Counted_init dc_Counted_init pm_Counted_init an_Counted_init cd_Counted_init ct_Counted_init), sl_Counted_init⟩)
    (c_Counted_init : PySem.W.codeIn K cd_Counted_init "Counted.__init__" = true)
    (k_Counted_init : PySem.W.keepIn K (.ref f_Counted_init) = true)
    (a_Counted_begin : PySem.W.findIn K (.ref C_Counted) "begin" = some (some (.ref p_Counted_begin)))
    (ps_Counted_begin : PySem.W.specialIn K (.ref p_Counted_begin) "__get__" = some (some (.builtin "property.__get__")))
    (pt_Counted_begin : PySem.W.takesIn K (.ref p_Counted_begin) = some true)
    (pr_Counted_begin : PySem.W.recIn K p_Counted_begin "property" = some (.ref f_Counted_begin :: r_Counted_begin))
    (l_Counted_begin : K.lookup f_Counted_begin = some ⟨oc_Counted_begin, od_Counted_begin, .func (PySem.W.fnOf "begin" "Counted.begin" (defArgs s_Counted_begin) (defBody s_Counted_begin) (defScope s_Counted_begin) .none kV_Counted_begin dc_Counted_begin pm_Counted_begin an_Counted_begin cd_Counted_begin ct_Counted_begin), sl_Counted_begin⟩)
    (c_Counted_begin : PySem.W.codeIn K cd_Counted_begin "Counted.begin" = true)
    (k_Counted_begin : PySem.W.keepIn K (.ref f_Counted_begin) = true)
    (a_Counted_firsts : PySem.W.findIn K (.ref C_Counted) "firsts" = some (some (.ref p_Counted_firsts)))
    (ps_Counted_firsts : PySem.W.specialIn K (.ref p_Counted_firsts) "__get__" = some (some (.builtin "property.__get__")))
    (pt_Counted_firsts : PySem.W.takesIn K (.ref p_Counted_firsts) = some true)
    (pr_Counted_firsts : PySem.W.recIn K p_Counted_firsts "property" = some (.ref f_Counted_firsts :: r_Counted_firsts))
    (l_Counted_firsts : K.lookup f_Counted_firsts = some ⟨oc_Counted_firsts, od_Counted_firsts, .func (PySem.W.fnOf "firsts" "Counted.firsts" (defArgs s_Counted_firsts) (defBody s_Counted_firsts) (defScope s_Counted_firsts) .none kV_Counted_firsts dc_Counted_firsts pm_Counted_firsts an_Counted_firsts cd_Counted_firsts ct_Counted_firsts), sl_Counted_firsts⟩)
    (c_Counted_firsts : PySem.W.codeIn K cd_Counted_firsts "Counted.firsts" = true)
    (k_Counted_firsts : PySem.W.keepIn K (.ref f_Counted_firsts) = true)
    (a_Counted_poly : PySem.W.findIn K (.ref C_Counted) "poly" = some (some (.ref p_Counted_poly)))
    (ps_Counted_poly : PySem.W.specialIn K (.ref p_Counted_poly) "__get__" = some (some (.builtin "property.__get__")))
    (pt_Counted_poly : PySem.W.takesIn K (.ref p_Counted_poly) = some true)
    (pr_Counted_poly : PySem.W.recIn K p_Counted_poly "property" = some (.ref f_Counted_poly :: r_Counted_poly))
    (l_Counted_poly : K.lookup f_Counted_poly = some ⟨oc_Counted_poly, od_Counted_poly, .func (PySem.W.fnOf "poly" "Counted.poly" (defArgs s_Counted_poly) (defBody s_Counted_poly) (defScope s_Counted_poly) .none kV_Counted_poly dc_Counted_poly pm_Counted_poly an_Counted_poly cd_Counted_poly ct_Counted_poly), sl_Counted_poly⟩)
    (c_Counted_poly : PySem.W.codeIn K cd_Counted_poly "Counted.poly" = true)
    (k_Counted_poly : PySem.W.keepIn K (.ref f_Counted_poly) = true)
    (a_Counted_getitem : PySem.W.findIn K (.ref C_Counted) "__getitem__" = some (some (.ref f_Counted_getitem)))
    (i_Counted_getitem : PySem.W.isFn K (.ref f_Counted_getitem) = true)
    (l_Counted_getitem : K.lookup f_Counted_getitem = some ⟨oc_Counted_getitem, od_Counted_getitem, .func (PySem.W.fnOf "__getitem__" "Counted.__getitem__" (defArgs s_Counted_getitem) (defBody s_Counted_getitem) (defScope s_Counted_getitem) .none kV_Counted_getitem dc_Counted_getitem pm_Counted_getitem an_Counted_getitem cd_Counted_getitem ct_Counted_getitem), sl_Counted_getitem⟩)
    (c_Counted_getitem : PySem.W.codeIn K cd_Counted_getitem "Counted.__getitem__" = true)
    (k_Counted_getitem : PySem.W.keepIn K (.ref f_Counted_getitem) = true)
    (fn_Counted_getitem : PySem.W.fnIn K f_Counted_getitem = true)
    (a_Counted_eq : PySem.W.findIn K (.ref C_Counted) "__eq__" = some (some (.ref f_Counted_eq)))
    (i_Counted_eq : PySem.W.isFn K (.ref f_Counted_eq) = true)
    (l_Counted_eq : K.lookup f_Counted_eq = some ⟨oc_Counted_eq, od_Counted_eq, .func (PySem.W.fnOf "__eq__" "Counted.__eq__" (defArgs s_Counted_eq) (defBody s_Counted_eq) (defScope s_Counted_eq) .none kV_Counted_eq dc_Counted_eq pm_Counted_eq an_Counted_eq cd_Counted_eq ct_Counted_eq), sl_Counted_eq⟩)
    (c_Counted_eq : PySem.W.codeIn K cd_Counted_eq "Counted.__eq__" = true)
    (k_Counted_eq : PySem.W.keepIn K (.ref f_Counted_eq) = true)
    (a_law_deck : PySem.W.nsIn K mainGlobals "_law_deck" = some (some (.ref f_law_deck)))
    (l_law_deck : K.lookup f_law_deck = some ⟨oc_law_deck, od_law_deck, .func (PySem.W.fnOf "_law_deck" "_law_deck" (defArgs s_law_deck) (defBody s_law_deck) (defScope s_law_deck) .none kV_law_deck dc_law_deck pm_law_deck an_law_deck cd_law_deck ct_law_deck), sl_law_deck⟩)
    (c_law_deck : PySem.W.codeIn K cd_law_deck "_law_deck" = true)
    (k_law_deck : PySem.W.keepIn K (.ref f_law_deck) = true)
    (a_law_draw : PySem.W.nsIn K mainGlobals "_law_draw" = some (some (.ref f_law_draw)))
    (l_law_draw : K.lookup f_law_draw = some ⟨oc_law_draw, od_law_draw, .func (PySem.W.fnOf "_law_draw" "_law_draw" (defArgs s_law_draw) (defBody s_law_draw) (defScope s_law_draw) .none kV_law_draw dc_law_draw pm_law_draw an_law_draw cd_law_draw ct_law_draw), sl_law_draw⟩)
    (c_law_draw : PySem.W.codeIn K cd_law_draw "_law_draw" = true)
    (k_law_draw : PySem.W.keepIn K (.ref f_law_draw) = true)
    (a_law_great : PySem.W.nsIn K mainGlobals "_law_great" = some (some (.ref f_law_great)))
    (l_law_great : K.lookup f_law_great = some ⟨oc_law_great, od_law_great, .func (PySem.W.fnOf "_law_great" "_law_great" (defArgs s_law_great) (defBody s_law_great) (defScope s_law_great) .none kV_law_great dc_law_great pm_law_great an_law_great cd_law_great ct_law_great), sl_law_great⟩)
    (c_law_great : PySem.W.codeIn K cd_law_great "_law_great" = true)
    (k_law_great : PySem.W.keepIn K (.ref f_law_great) = true)
    (a_law_list : PySem.W.nsIn K mainGlobals "_law_list" = some (some (.ref f_law_list)))
    (l_law_list : K.lookup f_law_list = some ⟨oc_law_list, od_law_list, .func (PySem.W.fnOf "_law_list" "_law_list" (defArgs s_law_list) (defBody s_law_list) (defScope s_law_list) .none kV_law_list dc_law_list pm_law_list an_law_list cd_law_list ct_law_list), sl_law_list⟩)
    (c_law_list : PySem.W.codeIn K cd_law_list "_law_list" = true)
    (k_law_list : PySem.W.keepIn K (.ref f_law_list) = true)
    (a_law_value : PySem.W.nsIn K mainGlobals "_law_value" = some (some (.ref f_law_value)))
    (l_law_value : K.lookup f_law_value = some ⟨oc_law_value, od_law_value, .func (PySem.W.fnOf "_law_value" "_law_value" (defArgs s_law_value) (defBody s_law_value) (defScope s_law_value) .none kV_law_value dc_law_value pm_law_value an_law_value cd_law_value ct_law_value), sl_law_value⟩)
    (c_law_value : PySem.W.codeIn K cd_law_value "_law_value" = true)
    (k_law_value : PySem.W.keepIn K (.ref f_law_value) = true)
    (a_law_lists : PySem.W.nsIn K mainGlobals "_law_lists" = some (some (.ref f_law_lists)))
    (l_law_lists : K.lookup f_law_lists = some ⟨oc_law_lists, od_law_lists, .func (PySem.W.fnOf "_law_lists" "_law_lists" (defArgs s_law_lists) (defBody s_law_lists) (defScope s_law_lists) .none kV_law_lists dc_law_lists pm_law_lists an_law_lists cd_law_lists ct_law_lists), sl_law_lists⟩)
    (c_law_lists : PySem.W.codeIn K cd_law_lists "_law_lists" = true)
    (k_law_lists : PySem.W.keepIn K (.ref f_law_lists) = true)
    (a_law_order : PySem.W.nsIn K mainGlobals "_law_order" = some (some (.ref f_law_order)))
    (l_law_order : K.lookup f_law_order = some ⟨oc_law_order, od_law_order, .func (PySem.W.fnOf "_law_order" "_law_order" (defArgs s_law_order) (defBody s_law_order) (defScope s_law_order) .none kV_law_order dc_law_order pm_law_order an_law_order cd_law_order ct_law_order), sl_law_order⟩)
    (c_law_order : PySem.W.codeIn K cd_law_order "_law_order" = true)
    (k_law_order : PySem.W.keepIn K (.ref f_law_order) = true)
    (a_law_needed : PySem.W.nsIn K mainGlobals "_law_needed" = some (some (.ref f_law_needed)))
    (l_law_needed : K.lookup f_law_needed = some ⟨oc_law_needed, od_law_needed, .func (PySem.W.fnOf "_law_needed" "_law_needed" (defArgs s_law_needed) (defBody s_law_needed) (defScope s_law_needed) .none kV_law_needed dc_law_needed pm_law_needed an_law_needed cd_law_needed ct_law_needed), sl_law_needed⟩)
    (c_law_needed : PySem.W.codeIn K cd_law_needed "_law_needed" = true)
    (k_law_needed : PySem.W.keepIn K (.ref f_law_needed) = true)
    (a_law_trimmed : PySem.W.nsIn K mainGlobals "_law_trimmed" = some (some (.ref f_law_trimmed)))
    (l_law_trimmed : K.lookup f_law_trimmed = some ⟨oc_law_trimmed, od_law_trimmed, .func (PySem.W.fnOf "_law_trimmed" "_law_trimmed" (defArgs s_law_trimmed) (defBody s_law_trimmed) (defScope s_law_trimmed) .none kV_law_trimmed dc_law_trimmed pm_law_trimmed an_law_trimmed cd_law_trimmed ct_law_trimmed), sl_law_trimmed⟩)
    (c_law_trimmed : PySem.W.codeIn K cd_law_trimmed "_law_trimmed" = true)
    (k_law_trimmed : PySem.W.keepIn K (.ref f_law_trimmed) = true)
    (a_law_changed : PySem.W.nsIn K mainGlobals "_law_changed" = some (some (.ref f_law_changed)))
    (l_law_changed : K.lookup f_law_changed = some ⟨oc_law_changed, od_law_changed, .func (PySem.W.fnOf "_law_changed" "_law_changed" (defArgs s_law_changed) (defBody s_law_changed) (defScope s_law_changed) .none kV_law_changed dc_law_changed pm_law_changed an_law_changed cd_law_changed ct_law_changed), sl_law_changed⟩)
    (c_law_changed : PySem.W.codeIn K cd_law_changed "_law_changed" = true)
    (k_law_changed : PySem.W.keepIn K (.ref f_law_changed) = true)
    (a_law_compared : PySem.W.nsIn K mainGlobals "_law_compared" = some (some (.ref f_law_compared)))
    (l_law_compared : K.lookup f_law_compared = some ⟨oc_law_compared, od_law_compared, .func (PySem.W.fnOf "_law_compared" "_law_compared" (defArgs s_law_compared) (defBody s_law_compared) (defScope s_law_compared) .none kV_law_compared dc_law_compared pm_law_compared an_law_compared cd_law_compared ct_law_compared), sl_law_compared⟩)
    (c_law_compared : PySem.W.codeIn K cd_law_compared "_law_compared" = true)
    (k_law_compared : PySem.W.keepIn K (.ref f_law_compared) = true)
    (a_law : PySem.W.nsIn K mainGlobals "law" = some (some (.ref f_law)))
    (l_law : K.lookup f_law = some ⟨oc_law, od_law, .func (PySem.W.fnOf "law" "law" (defArgs s_law) (defBody s_law) (defScope s_law) .none kV_law dc_law pm_law an_law cd_law ct_law), sl_law⟩)
    (c_law : PySem.W.codeIn K cd_law "law" = true)
    (k_law : PySem.W.keepIn K (.ref f_law) = true)
    (z_all : PySem.W.nsIn K mainGlobals "all" = some none)
    (z_bool : PySem.W.nsIn K mainGlobals "bool" = some none)
    (z_enumerate : PySem.W.nsIn K mainGlobals "enumerate" = some none)
    (z_int : PySem.W.nsIn K mainGlobals "int" = some none)
    (z_isinstance : PySem.W.nsIn K mainGlobals "isinstance" = some none)
    (z_len : PySem.W.nsIn K mainGlobals "len" = some none)
    (z_list : PySem.W.nsIn K mainGlobals "list" = some none)
    (z_range : PySem.W.nsIn K mainGlobals "range" = some none)
    (y_comb : PySem.W.nsIn K mainGlobals "comb" = some (some (.builtin "math.comb")))
    (y_zip_longest : PySem.W.nsIn K mainGlobals "zip_longest" = some (some (.type "itertools.zip_longest")))
    (xa_Counted : PySem.W.findIn K (.ref C_Counted) "__class__" = some (some (.builtin "object.__class__")))
    (xn_Counted : PySem.W.specialIn K (.builtin "object.__class__") "__get__" = some (some (.builtin "getset_descriptor.__get__")))
    (xt_Counted : PySem.W.takesIn K (.builtin "object.__class__") = some true)
    (xm_Counted : PySem.W.mroIn K C_Counted (.type "object") = some true)
    (tc_Counted : PySem.W.typeIn K (.ref C_Counted) = some (.type "type"))
    (ne_Counted : PySem.W.findIn K (.ref C_Counted) "__ne__" = some (some (.builtin "object.__ne__")))
    (z0_Counted : PySem.W.mroIn K C_Counted (.type "NoneType") = some false)
    (z1_Counted : PySem.W.mroIn K C_Counted (.type "int") = some false)
    (z2_Counted : PySem.W.mroIn K C_Counted (.type "str") = some false)
    (z3_Counted : PySem.W.mroIn K C_Counted (.type "list") = some false)
    (z4_Counted : PySem.W.mroIn K C_Counted (.type "tuple") = some false)
    : ∃ fd : FuncData, (∀ (s : Shared) (v : Value), BindsTo s fd ⟨[v], []⟩ [("script", v)]) ∧ ∀ base : Heap, K.In base → base.Ns mainGlobals mg → FnOk l.prog w K mg base CX0 8 fa fd ["script"] (spLaw K) := by
  have e := hfa.symm.trans (PySem.W.mg_of X G a_law)
  cases e
  have F_PlanError_init := fun_mk (st := s_PlanError_init) l_PlanError_init c_PlanError_init k_PlanError_init
  have b_PlanError_init := F_PlanError_init.binds (ps := ["self", "value"]) fun _ _ _ _ _ _ us hl => match us, hl with | [_, _], _ => rfl
  have F_value_at := fun_mk (st := s_value_at) l_value_at c_value_at k_value_at
  have b_value_at := F_value_at.binds (ps := ["poly", "n"]) fun _ _ _ _ _ _ us hl => match us, hl with | [_, _], _ => rfl
  have F_without_zeros := fun_mk (st := s_without_zeros) l_without_zeros c_without_zeros k_without_zeros
  have b_without_zeros := F_without_zeros.binds (ps := ["poly"]) fun _ _ _ _ _ _ us hl => match us, hl with | [_], _ => rfl
  have F_least_begin := fun_mk (st := s_least_begin) l_least_begin c_least_begin k_least_begin
  have b_least_begin := F_least_begin.binds (ps := ["firsts", "poly"]) fun _ _ _ _ _ _ us hl => match us, hl with | [_, _], _ => rfl
  have F_Counted_init := fun_mk (st := s_Counted_init) l_Counted_init c_Counted_init k_Counted_init
  have b_Counted_init := F_Counted_init.binds (ps := ["self", "firsts", "poly"]) fun _ _ _ _ _ _ us hl => match us, hl with | [_, _, _], _ => rfl
  have F_Counted_begin := fun_mk (st := s_Counted_begin) l_Counted_begin c_Counted_begin k_Counted_begin
  have b_Counted_begin := F_Counted_begin.binds (ps := ["self"]) fun _ _ _ _ _ _ us hl => match us, hl with | [_], _ => rfl
  have F_Counted_firsts := fun_mk (st := s_Counted_firsts) l_Counted_firsts c_Counted_firsts k_Counted_firsts
  have b_Counted_firsts := F_Counted_firsts.binds (ps := ["self"]) fun _ _ _ _ _ _ us hl => match us, hl with | [_], _ => rfl
  have F_Counted_poly := fun_mk (st := s_Counted_poly) l_Counted_poly c_Counted_poly k_Counted_poly
  have b_Counted_poly := F_Counted_poly.binds (ps := ["self"]) fun _ _ _ _ _ _ us hl => match us, hl with | [_], _ => rfl
  have F_Counted_getitem := fun_mk (st := s_Counted_getitem) l_Counted_getitem c_Counted_getitem k_Counted_getitem
  have b_Counted_getitem := F_Counted_getitem.binds (ps := ["self", "at"]) fun _ _ _ _ _ _ us hl => match us, hl with | [_, _], _ => rfl
  have F_Counted_eq := fun_mk (st := s_Counted_eq) l_Counted_eq c_Counted_eq k_Counted_eq
  have b_Counted_eq := F_Counted_eq.binds (ps := ["self", "other"]) fun _ _ _ _ _ _ us hl => match us, hl with | [_, _], _ => rfl
  have F_law_deck := fun_mk (st := s_law_deck) l_law_deck c_law_deck k_law_deck
  have b_law_deck := F_law_deck.binds (ps := ["script"]) fun _ _ _ _ _ _ us hl => match us, hl with | [_], _ => rfl
  have F_law_draw := fun_mk (st := s_law_draw) l_law_draw c_law_draw k_law_draw
  have b_law_draw := F_law_draw.binds (ps := ["deck", "many"]) fun _ _ _ _ _ _ us hl => match us, hl with | [_, _], _ => rfl
  have F_law_great := fun_mk (st := s_law_great) l_law_great c_law_great k_law_great
  have b_law_great := F_law_great.binds (ps := ["deck", "many"]) fun _ _ _ _ _ _ us hl => match us, hl with | [_, _], _ => rfl
  have F_law_list := fun_mk (st := s_law_list) l_law_list c_law_list k_law_list
  have b_law_list := F_law_list.binds (ps := ["deck", "most"]) fun _ _ _ _ _ _ us hl => match us, hl with | [_, _], _ => rfl
  have F_law_value := fun_mk (st := s_law_value) l_law_value c_law_value k_law_value
  have b_law_value := F_law_value.binds (ps := ["row", "at"]) fun _ _ _ _ _ _ us hl => match us, hl with | [_, _], _ => rfl
  have F_law_lists := fun_mk (st := s_law_lists) l_law_lists c_law_lists k_law_lists
  have b_law_lists := F_law_lists.binds (ps := ["deck", "most"]) fun _ _ _ _ _ _ us hl => match us, hl with | [_, _], _ => rfl
  have F_law_order := fun_mk (st := s_law_order) l_law_order c_law_order k_law_order
  have b_law_order := F_law_order.binds (ps := ["deck", "many"]) fun _ _ _ _ _ _ us hl => match us, hl with | [_, _], _ => rfl
  have F_law_needed := fun_mk (st := s_law_needed) l_law_needed c_law_needed k_law_needed
  have b_law_needed := F_law_needed.binds (ps := ["heads", "row"]) fun _ _ _ _ _ _ us hl => match us, hl with | [_, _], _ => rfl
  have F_law_trimmed := fun_mk (st := s_law_trimmed) l_law_trimmed c_law_trimmed k_law_trimmed
  have b_law_trimmed := F_law_trimmed.binds (ps := ["row"]) fun _ _ _ _ _ _ us hl => match us, hl with | [_], _ => rfl
  have F_law_changed := fun_mk (st := s_law_changed) l_law_changed c_law_changed k_law_changed
  have b_law_changed := F_law_changed.binds (ps := ["deck", "numbers", "row"]) fun _ _ _ _ _ _ us hl => match us, hl with | [_, _, _], _ => rfl
  have F_law_compared := fun_mk (st := s_law_compared) l_law_compared c_law_compared k_law_compared
  have b_law_compared := F_law_compared.binds (ps := ["one", "two", "due"]) fun _ _ _ _ _ _ us hl => match us, hl with | [_, _, _], _ => rfl
  have F_law := fun_mk (st := s_law) l_law c_law k_law
  have b_law := F_law.binds (ps := ["script"]) fun _ _ _ _ _ _ us hl => match us, hl with | [_], _ => rfl
  let T : Tx K w mg := {  f_PlanError_init := f_PlanError_init, C_InvalidNumber := C_InvalidNumber, mg_InvalidNumber := PySem.W.mg_of X G aC_InvalidNumber, ox_InvalidNumber := ⟨⟨_, _, _, _, _, _, _, _, _, _, _, _, _, _, _, xL_InvalidNumber, rfl⟩, sa_InvalidNumber, eC_InvalidNumber, tC_InvalidNumber, kC_InvalidNumber⟩, ic_InvalidNumber := ic_InvalidNumber, nv_InvalidNumber := nv_InvalidNumber, xf_InvalidNumber := ⟨ga_InvalidNumber, gt_InvalidNumber, eC_InvalidNumber, hC_InvalidNumber⟩, ti := ti, C_PlanError := C_PlanError, mg_PlanError := PySem.W.mg_of X G aC_PlanError, C_Counted := C_Counted, cl_Counted := ⟨pg_Counted, hd_Counted, po_Counted, sa_Counted⟩, mg_Counted := PySem.W.mg_of X G aC_Counted, n_Counted_poly := n_Counted_poly, n_Counted_firsts := n_Counted_firsts, d_PlanError_init := _, F_PlanError_init := F_PlanError_init, b_PlanError_init := b_PlanError_init, f_value_at := f_value_at, d_value_at := _, F_value_at := F_value_at, b_value_at := b_value_at, g_value_at := PySem.W.mg_of X G a_value_at, f_without_zeros := f_without_zeros, d_without_zeros := _, F_without_zeros := F_without_zeros, b_without_zeros := b_without_zeros, g_without_zeros := PySem.W.mg_of X G a_without_zeros, f_least_begin := f_least_begin, d_least_begin := _, F_least_begin := F_least_begin, b_least_begin := b_least_begin, g_least_begin := PySem.W.mg_of X G a_least_begin, f_Counted_init := f_Counted_init, d_Counted_init := _, F_Counted_init := F_Counted_init, b_Counted_init := b_Counted_init, mk_Counted := ⟨ms_Counted, a_Counted_init, i_Counted_init, kc_Counted⟩, f_Counted_begin := f_Counted_begin, d_Counted_begin := _, F_Counted_begin := F_Counted_begin, b_Counted_begin := b_Counted_begin, p_Counted_begin := p_Counted_begin, pr_Counted_begin := ⟨a_Counted_begin, ps_Counted_begin, pt_Counted_begin, ⟨_, pr_Counted_begin⟩⟩, f_Counted_firsts := f_Counted_firsts, d_Counted_firsts := _, F_Counted_firsts := F_Counted_firsts, b_Counted_firsts := b_Counted_firsts, p_Counted_firsts := p_Counted_firsts, pr_Counted_firsts := ⟨a_Counted_firsts, ps_Counted_firsts, pt_Counted_firsts, ⟨_, pr_Counted_firsts⟩⟩, f_Counted_poly := f_Counted_poly, d_Counted_poly := _, F_Counted_poly := F_Counted_poly, b_Counted_poly := b_Counted_poly, p_Counted_poly := p_Counted_poly, pr_Counted_poly := ⟨a_Counted_poly, ps_Counted_poly, pt_Counted_poly, ⟨_, pr_Counted_poly⟩⟩, f_Counted_getitem := f_Counted_getitem, d_Counted_getitem := _, F_Counted_getitem := F_Counted_getitem, b_Counted_getitem := b_Counted_getitem, fn_Counted_getitem := fn_Counted_getitem, me_Counted_getitem := ⟨a_Counted_getitem, i_Counted_getitem, k_Counted_getitem⟩, f_Counted_eq := f_Counted_eq, d_Counted_eq := _, F_Counted_eq := F_Counted_eq, b_Counted_eq := b_Counted_eq, me_Counted_eq := ⟨a_Counted_eq, i_Counted_eq, k_Counted_eq⟩, f_law_deck := f_law_deck, d_law_deck := _, F_law_deck := F_law_deck, b_law_deck := b_law_deck, g_law_deck := PySem.W.mg_of X G a_law_deck, f_law_draw := f_law_draw, d_law_draw := _, F_law_draw := F_law_draw, b_law_draw := b_law_draw, g_law_draw := PySem.W.mg_of X G a_law_draw, f_law_great := f_law_great, d_law_great := _, F_law_great := F_law_great, b_law_great := b_law_great, g_law_great := PySem.W.mg_of X G a_law_great, f_law_list := f_law_list, d_law_list := _, F_law_list := F_law_list, b_law_list := b_law_list, g_law_list := PySem.W.mg_of X G a_law_list, f_law_value := f_law_value, d_law_value := _, F_law_value := F_law_value, b_law_value := b_law_value, g_law_value := PySem.W.mg_of X G a_law_value, f_law_lists := f_law_lists, d_law_lists := _, F_law_lists := F_law_lists, b_law_lists := b_law_lists, g_law_lists := PySem.W.mg_of X G a_law_lists, f_law_order := f_law_order, d_law_order := _, F_law_order := F_law_order, b_law_order := b_law_order, g_law_order := PySem.W.mg_of X G a_law_order, f_law_needed := f_law_needed, d_law_needed := _, F_law_needed := F_law_needed, b_law_needed := b_law_needed, g_law_needed := PySem.W.mg_of X G a_law_needed, f_law_trimmed := f_law_trimmed, d_law_trimmed := _, F_law_trimmed := F_law_trimmed, b_law_trimmed := b_law_trimmed, g_law_trimmed := PySem.W.mg_of X G a_law_trimmed, f_law_changed := f_law_changed, d_law_changed := _, F_law_changed := F_law_changed, b_law_changed := b_law_changed, g_law_changed := PySem.W.mg_of X G a_law_changed, f_law_compared := f_law_compared, d_law_compared := _, F_law_compared := F_law_compared, b_law_compared := b_law_compared, g_law_compared := PySem.W.mg_of X G a_law_compared, f_law := fa, d_law := _, F_law := F_law, b_law := b_law, g_law := PySem.W.mg_of X G a_law, m_all := PySem.W.mg_none_of X G z_all, m_bool := PySem.W.mg_none_of X G z_bool, m_enumerate := PySem.W.mg_none_of X G z_enumerate, m_int := PySem.W.mg_none_of X G z_int, m_isinstance := PySem.W.mg_none_of X G z_isinstance, m_len := PySem.W.mg_none_of X G z_len, m_list := PySem.W.mg_none_of X G z_list, m_range := PySem.W.mg_none_of X G z_range, m_comb := PySem.W.mg_of X G y_comb, m_zip_longest := PySem.W.mg_of X G y_zip_longest, xa_Counted := xa_Counted, xn_Counted := xn_Counted, xt_Counted := xt_Counted, xm_Counted := xm_Counted, tc_Counted := tc_Counted, cm_Counted := ⟨⟨z0_Counted, z1_Counted, z2_Counted, z3_Counted, z4_Counted⟩, xm_Counted, ne_Counted⟩ }
  exact ⟨PySem.W.fnOf "law" "law" (defArgs s_law) (defBody s_law) (defScope s_law) .none kV_law dc_law pm_law an_law cd_law ct_law, fun s v => .of_eq rfl, fun base _ _ => ok_law T⟩
end K74
open PySem PySem.W PyProof.Rows
set_option maxHeartbeats 0 in
theorem PySem.Challenge.cw_plandays_k74_counted_that_are_equal_holds : PySem.Challenge.rw_plandays_k74_counted_that_are_equal.Holds := by
  w_on; o_law; k_head; (case hw => w_witness2)
  k_fill
  refine L2.walk_of (l := PySem.Challenge.rw_plandays_k74_counted_that_are_equal) (n := 63) (k := 8) (x := "script") (CX := fun _ => L2.CX0) (sp := fun w => K74.spLaw _) rfl (by decide) rfl ⟨rfl, by decide, by decide⟩ (fun w h Y => PySem.W.kIn_of Y) ?F (fun _ _ a ns hl _ hS => ⟨a, ns, rfl, hS, hl, fun _ => rfl⟩) (fun _ _ _ _ _ h => h)
  case F =>
    intro w mg fa h KX G hmg
    refine' K74.all_mk KX G hmg ?aC_Counted ?pg_Counted ?hd_Counted ?po_Counted ?sa_Counted ?ms_Counted ?kc_Counted ?n_Counted_poly ?n_Counted_firsts ?aC_InvalidNumber ?eC_InvalidNumber ?tC_InvalidNumber ?hC_InvalidNumber ?xL_InvalidNumber ?sa_InvalidNumber ?ga_InvalidNumber ?gt_InvalidNumber ?nv_InvalidNumber ?ic_InvalidNumber ?kC_InvalidNumber ?aC_PlanError ?eC_PlanError ?tC_PlanError ?hC_PlanError ?ti ?l_PlanError_init ?c_PlanError_init ?k_PlanError_init ?a_value_at ?l_value_at ?c_value_at ?k_value_at ?a_without_zeros ?l_without_zeros ?c_without_zeros ?k_without_zeros ?a_least_begin ?l_least_begin ?c_least_begin ?k_least_begin ?a_Counted_init ?i_Counted_init ?l_Counted_init ?c_Counted_init ?k_Counted_init ?a_Counted_begin ?ps_Counted_begin ?pt_Counted_begin ?pr_Counted_begin ?l_Counted_begin ?c_Counted_begin ?k_Counted_begin ?a_Counted_firsts ?ps_Counted_firsts ?pt_Counted_firsts ?pr_Counted_firsts ?l_Counted_firsts ?c_Counted_firsts ?k_Counted_firsts ?a_Counted_poly ?ps_Counted_poly ?pt_Counted_poly ?pr_Counted_poly ?l_Counted_poly ?c_Counted_poly ?k_Counted_poly ?a_Counted_getitem ?i_Counted_getitem ?l_Counted_getitem ?c_Counted_getitem ?k_Counted_getitem ?fn_Counted_getitem ?a_Counted_eq ?i_Counted_eq ?l_Counted_eq ?c_Counted_eq ?k_Counted_eq ?a_law_deck ?l_law_deck ?c_law_deck ?k_law_deck ?a_law_draw ?l_law_draw ?c_law_draw ?k_law_draw ?a_law_great ?l_law_great ?c_law_great ?k_law_great ?a_law_list ?l_law_list ?c_law_list ?k_law_list ?a_law_value ?l_law_value ?c_law_value ?k_law_value ?a_law_lists ?l_law_lists ?c_law_lists ?k_law_lists ?a_law_order ?l_law_order ?c_law_order ?k_law_order ?a_law_needed ?l_law_needed ?c_law_needed ?k_law_needed ?a_law_trimmed ?l_law_trimmed ?c_law_trimmed ?k_law_trimmed ?a_law_changed ?l_law_changed ?c_law_changed ?k_law_changed ?a_law_compared ?l_law_compared ?c_law_compared ?k_law_compared ?a_law ?l_law ?c_law ?k_law ?z_all ?z_bool ?z_enumerate ?z_int ?z_isinstance ?z_len ?z_list ?z_range ?y_comb ?y_zip_longest ?xa_Counted ?xn_Counted ?xt_Counted ?xm_Counted ?tc_Counted ?ne_Counted ?z0_Counted ?z1_Counted ?z2_Counted ?z3_Counted ?z4_Counted
    (case aC_Counted => k_is)
    (case pg_Counted => k_is)
    (case hd_Counted => k_is)
    (case po_Counted => k_is)
    (case sa_Counted => k_is)
    (case ms_Counted => k_is)
    (case kc_Counted => k_is)
    (case n_Counted_poly => k_is)
    (case n_Counted_firsts => k_is)
    (case aC_InvalidNumber => k_is)
    (case eC_InvalidNumber => k_is)
    (case tC_InvalidNumber => k_is)
    (case hC_InvalidNumber => k_is)
    (case xL_InvalidNumber => k_is)
    (case sa_InvalidNumber => k_is)
    (case ga_InvalidNumber => k_is)
    (case gt_InvalidNumber => k_is)
    (case nv_InvalidNumber => k_is)
    (case ic_InvalidNumber => k_is)
    (case kC_InvalidNumber => k_is)
    (case aC_PlanError => k_is)
    (case eC_PlanError => k_is)
    (case tC_PlanError => k_is)
    (case hC_PlanError => k_is)
    (case ti => k_is)
    (case l_PlanError_init => k_is)
    (case c_PlanError_init => k_is)
    (case k_PlanError_init => k_is)
    (case a_value_at => k_is)
    (case l_value_at => k_is)
    (case c_value_at => k_is)
    (case k_value_at => k_is)
    (case a_without_zeros => k_is)
    (case l_without_zeros => k_is)
    (case c_without_zeros => k_is)
    (case k_without_zeros => k_is)
    (case a_least_begin => k_is)
    (case l_least_begin => k_is)
    (case c_least_begin => k_is)
    (case k_least_begin => k_is)
    (case a_Counted_init => k_is)
    (case i_Counted_init => k_is)
    (case l_Counted_init => k_is)
    (case c_Counted_init => k_is)
    (case k_Counted_init => k_is)
    (case a_Counted_begin => k_is)
    (case ps_Counted_begin => k_is)
    (case pt_Counted_begin => k_is)
    (case pr_Counted_begin => k_is)
    (case l_Counted_begin => k_is)
    (case c_Counted_begin => k_is)
    (case k_Counted_begin => k_is)
    (case a_Counted_firsts => k_is)
    (case ps_Counted_firsts => k_is)
    (case pt_Counted_firsts => k_is)
    (case pr_Counted_firsts => k_is)
    (case l_Counted_firsts => k_is)
    (case c_Counted_firsts => k_is)
    (case k_Counted_firsts => k_is)
    (case a_Counted_poly => k_is)
    (case ps_Counted_poly => k_is)
    (case pt_Counted_poly => k_is)
    (case pr_Counted_poly => k_is)
    (case l_Counted_poly => k_is)
    (case c_Counted_poly => k_is)
    (case k_Counted_poly => k_is)
    (case a_Counted_getitem => k_is)
    (case i_Counted_getitem => k_is)
    (case l_Counted_getitem => k_is)
    (case c_Counted_getitem => k_is)
    (case k_Counted_getitem => k_is)
    (case fn_Counted_getitem => k_is)
    (case a_Counted_eq => k_is)
    (case i_Counted_eq => k_is)
    (case l_Counted_eq => k_is)
    (case c_Counted_eq => k_is)
    (case k_Counted_eq => k_is)
    (case a_law_deck => k_is)
    (case l_law_deck => k_is)
    (case c_law_deck => k_is)
    (case k_law_deck => k_is)
    (case a_law_draw => k_is)
    (case l_law_draw => k_is)
    (case c_law_draw => k_is)
    (case k_law_draw => k_is)
    (case a_law_great => k_is)
    (case l_law_great => k_is)
    (case c_law_great => k_is)
    (case k_law_great => k_is)
    (case a_law_list => k_is)
    (case l_law_list => k_is)
    (case c_law_list => k_is)
    (case k_law_list => k_is)
    (case a_law_value => k_is)
    (case l_law_value => k_is)
    (case c_law_value => k_is)
    (case k_law_value => k_is)
    (case a_law_lists => k_is)
    (case l_law_lists => k_is)
    (case c_law_lists => k_is)
    (case k_law_lists => k_is)
    (case a_law_order => k_is)
    (case l_law_order => k_is)
    (case c_law_order => k_is)
    (case k_law_order => k_is)
    (case a_law_needed => k_is)
    (case l_law_needed => k_is)
    (case c_law_needed => k_is)
    (case k_law_needed => k_is)
    (case a_law_trimmed => k_is)
    (case l_law_trimmed => k_is)
    (case c_law_trimmed => k_is)
    (case k_law_trimmed => k_is)
    (case a_law_changed => k_is)
    (case l_law_changed => k_is)
    (case c_law_changed => k_is)
    (case k_law_changed => k_is)
    (case a_law_compared => k_is)
    (case l_law_compared => k_is)
    (case c_law_compared => k_is)
    (case k_law_compared => k_is)
    (case a_law => k_is)
    (case l_law => k_is)
    (case c_law => k_is)
    (case k_law => k_is)
    (case z_all => k_is)
    (case z_bool => k_is)
    (case z_enumerate => k_is)
    (case z_int => k_is)
    (case z_isinstance => k_is)
    (case z_len => k_is)
    (case z_list => k_is)
    (case z_range => k_is)
    (case y_comb => k_is)
    (case y_zip_longest => k_is)
    (case xa_Counted => k_is)
    (case xn_Counted => k_is)
    (case xt_Counted => k_is)
    (case xm_Counted => k_is)
    (case tc_Counted => k_is)
    (case ne_Counted => k_is)
    (case z0_Counted => k_is)
    (case z1_Counted => k_is)
    (case z2_Counted => k_is)
    (case z3_Counted => k_is)
    (case z4_Counted => k_is)

