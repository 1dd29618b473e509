import PyProof.Rows.All
import Wide.All
import OpenK.AllK
import Wide.FinOn
import HandS.ForMost
import HandS.Wide
import HandS.Gcd
import HandS.SetFor
import HandS.Walk
import HandS.Style
import HandS.Conv
import HandS.More
import HandS.Property
import HandS.MakeKwOnly
import HandS.Exc
import HandS.ExcOwn
import HandS.ExcInit
import HandS.ExcField
import HandS.ExcIs
import HandS.WordsExc
import HandS.NoneIn
import HandS.OwnEq
import HandS.IsInst
import HandS.Codes
import HandS.Defaults
import KE.KMathGC
import Flt.Len
import HandS.SlotsOwn
import HandS.Star
import PySem.Challenge.RW_plandays_k76_steps_of_one_and_then_the_o
set_option Elab.async false
set_option linter.all false
set_option maxRecDepth 100000
namespace K76
open PySem
/-! ### binomials of any integer, and polynomials in them -/
def fct : Nat → Int
  | 0 => 1
  | j + 1 => ((j : Int) + 1) * fct j
def fl (n : Int) : Nat → Int
  | 0 => 1
  | j + 1 => fl n j * (n - j)
theorem fct_pos : ∀ j, 0 < fct j
  | 0 => by decide
  | j + 1 => by
    have := fct_pos j
    show 0 < ((j : Int) + 1) * fct j
    exact Int.mul_pos (by omega) this
theorem fl_head (n : Int) : ∀ j, fl (n + 1) (j + 1) = (n + 1) * fl n j
  | 0 => by show 1 * (n + 1 - ((0 : Nat) : Int)) = (n + 1) * 1; omega
  | j + 1 => by
    have ih := fl_head n j
    show fl (n + 1) (j + 1) * (n + 1 - ((j + 1 : Nat) : Int)) = (n + 1) * (fl n j * (n - j))
    rw [ih, show n + 1 - ((j + 1 : Nat) : Int) = n - (j : Int) by omega, Int.mul_assoc]
theorem fl_step (n : Int) (j : Nat) : fl (n + 1) (j + 1) = fl n (j + 1) + ((j : Int) + 1) * fl n j := by
  rw [fl_head]
  show (n + 1) * fl n j = fl n j * (n - j) + ((j : Int) + 1) * fl n j
  grind
theorem fct_dvd : ∀ (j : Nat) (n : Int), fct j ∣ fl n j
  | 0, n => Int.one_dvd _
  | j + 1, n => by
    have ih := fct_dvd j
    have h0 : fl 0 (j + 1) = 0 := by
      have := fl_head (-1) j
      rw [show (-1 : Int) + 1 = 0 by omega, Int.zero_mul] at this
      exact this
    have st : ∀ m : Int, fct (j + 1) ∣ ((j : Int) + 1) * fl m j := fun m => Int.mul_dvd_mul_left _ (ih m)
    have up : ∀ m : Nat, fct (j + 1) ∣ fl (m : Int) (j + 1) := by
      intro m
      induction m with
      | zero => rw [show ((0 : Nat) : Int) = 0 from rfl, h0]; exact Int.dvd_zero _
      | succ m im =>
        rw [show ((m + 1 : Nat) : Int) = (m : Int) + 1 by omega, fl_step]
        exact Int.dvd_add im (st _)
    have dn : ∀ m : Nat, fct (j + 1) ∣ fl (-(m : Int)) (j + 1) := by
      intro m
      induction m with
      | zero => rw [show -((0 : Nat) : Int) = 0 from rfl, h0]; exact Int.dvd_zero _
      | succ m im =>
        have h := fl_step (-((m + 1 : Nat) : Int)) j
        rw [show -((m + 1 : Nat) : Int) + 1 = -(m : Int) by omega] at h
        have e : fl (-((m + 1 : Nat) : Int)) (j + 1) = fl (-(m : Int)) (j + 1) - ((j : Int) + 1) * fl (-((m + 1 : Nat) : Int)) j := by omega
        rw [e]
        exact Int.dvd_sub im (st _)
    rcases Int.le_total 0 n with h | h
    · obtain ⟨m, rfl⟩ := Int.eq_ofNat_of_zero_le h
      exact up m
    · obtain ⟨m, hm⟩ := Int.eq_ofNat_of_zero_le (show 0 ≤ -n by omega)
      obtain rfl : n = -(m : Int) := by omega
      exact dn m
/-- the binomial of n over j -/
def W (n : Int) (j : Nat) : Int := fl n j / fct j
theorem W_mul (n : Int) (j : Nat) : W n j * fct j = fl n j := Int.ediv_mul_cancel (fct_dvd j n)
theorem fct_inj {a b : Int} {j : Nat} (h : a * fct j = b * fct j) : a = b := Int.eq_of_mul_eq_mul_right (by have := fct_pos j; omega) h
theorem W_r (n : Int) : W n 0 = 1 := rfl
theorem W_next (n : Int) (j : Nat) : W n (j + 1) * ((j : Int) + 1) = W n j * (n - j) := by
  refine fct_inj (j := j) ?_
  have h1 := W_mul n (j + 1)
  have h2 := W_mul n j
  have h3 : fl n (j + 1) = fl n j * (n - j) := rfl
  have h4 : fct (j + 1) = ((j : Int) + 1) * fct j := rfl
  rw [h4, h3, ← h2] at h1
  rw [Int.mul_assoc, h1]
  grind
theorem W_div (n : Int) (j : Nat) : W n j * (n - j) / ((j : Int) + 1) = W n (j + 1) := by
  rw [← W_next]
  exact Int.mul_ediv_cancel _ (by omega)
theorem W_pascal (n : Int) (j : Nat) : W (n + 1) (j + 1) = W n (j + 1) + W n j := by
  refine fct_inj (j := j + 1) ?_
  have h1 := W_mul (n + 1) (j + 1)
  have h2 := W_mul n (j + 1)
  have h3 := W_mul n j
  have h4 : fct (j + 1) = ((j : Int) + 1) * fct j := rfl
  have h5 := fl_step n j
  rw [h1, h5, ← h2, ← h3, Int.add_mul, h4]
  grind
theorem W_nil (j : Nat) : W 0 (j + 1) = 0 := by
  have h0 : fl 0 (j + 1) = 0 := by
    have := fl_head (-1) j
    rw [show (-1 : Int) + 1 = 0 by omega, Int.zero_mul] at this
    exact this
  unfold W
  rw [h0, Int.zero_ediv]
theorem fl_size {n : Int} {b : Nat} : ∀ j : Nat, n.natAbs + j ≤ 2 ^ b → (fl n j).natAbs ≤ 2 ^ (b * j)
  | 0, _ => by show (1 : Int).natAbs ≤ 2 ^ (b * 0); rw [Nat.mul_zero]; decide
  | j + 1, h => by
    have ih := fl_size (n := n) (b := b) j (by omega)
    show (fl n j * (n - j)).natAbs ≤ _
    rw [Int.natAbs_mul, show b * (j + 1) = b * j + b from rfl, Nat.pow_add]
    exact Nat.mul_le_mul ih (by omega)
theorem W_size {n : Int} {b j : Nat} (h : n.natAbs + j ≤ 2 ^ b) : (W n j).natAbs ≤ 2 ^ (b * j) := by
  have h1 := W_mul n j
  have h2 := fct_pos j
  have h3 := fl_size (n := n) (b := b) j h
  rw [← h1, Int.natAbs_mul] at h3
  have : (W n j).natAbs * 1 ≤ (W n j).natAbs * (fct j).natAbs := Nat.mul_le_mul_left _ (by omega)
  omega
/-- the value of a polynomial's rest, from the index j on -/
def pols (n : Int) : Nat → List Int → Int
  | _, [] => 0
  | j, a :: r => a * W n j + pols n (j + 1) r
def pol (r : List Int) (n : Int) : Int := pols n 0 r
theorem pols_snoc (n a : Int) : ∀ (j : Nat) (l : List Int), pols n j (l ++ [a]) = pols n j l + a * W n (j + l.length)
  | j, [] => by show a * W n j + 0 = 0 + a * W n (j + 0); rw [Nat.add_zero]; omega
  | j, b :: r => by
    have ih := pols_snoc n a (j + 1) r
    show b * W n j + pols n (j + 1) (r ++ [a]) = b * W n j + pols n (j + 1) r + a * W n (j + (r.length + 1))
    rw [ih, show j + 1 + r.length = j + (r.length + 1) by omega]
    omega
theorem pol_take {n a : Int} {l : List Int} {i : Nat} (h : l[i]? = some a) : pol (l.take (i + 1)) n = pol (l.take i) n + a * W n i := by
  have hi := (List.getElem?_eq_some_iff.mp h).1
  unfold pol
  rw [List.take_add_one, h, show (some a).toList = [a] from rfl, pols_snoc, List.length_take, Nat.min_eq_left (by omega), Nat.zero_add]
theorem pols_step (n : Int) : ∀ (j : Nat) (r : List Int), pols (n + 1) (j + 1) r = pols n (j + 1) r + pols n j r
  | j, [] => rfl
  | j, a :: r => by
    have ih := pols_step n (j + 1) r
    show a * W (n + 1) (j + 1) + pols (n + 1) (j + 1 + 1) r = a * W n (j + 1) + pols n (j + 1 + 1) r + (a * W n j + pols n (j + 1) r)
    rw [ih, W_pascal, Int.mul_add]
    omega
/-- one day more: the polynomial without its first entry -/
theorem pol_step (n : Int) (r : List Int) : pol r (n + 1) - pol r n = pol (r.drop 1) n := by
  cases r with
  | nil => rfl
  | cons a r =>
    show a * W (n + 1) 0 + pols (n + 1) 1 r - (a * W n 0 + pols n 1 r) = pols n 0 r
    have h := pols_step n 0 r
    rw [Nat.zero_add] at h
    rw [h, W_r, W_r]
    omega
theorem pols_nil : ∀ (j : Nat) (r : List Int), pols 0 (j + 1) r = 0
  | _, [] => rfl
  | j, a :: r => by
    show a * W 0 (j + 1) + pols 0 (j + 1 + 1) r = 0
    rw [W_nil, pols_nil]
    omega
theorem pol_zero (r : List Int) : pol r 0 = (r.take 1).sum := by
  cases r with
  | nil => rfl
  | cons a r =>
    show a * W 0 0 + pols 0 (0 + 1) r = ([a] : List Int).sum
    rw [pols_nil, W_r]
    simp
/-! ### differences, and Newton's polynomial -/
def D (f : Int → Int) : Int → Int := fun n => f (n + 1) - f n
def Dk : Nat → (Int → Int) → Int → Int
  | 0, f => f
  | k + 1, f => Dk k (D f)
theorem Dk_succ : ∀ (k : Nat) (f : Int → Int), Dk (k + 1) f = D (Dk k f)
  | 0, _ => rfl
  | k + 1, f => Dk_succ k (D f)
theorem D_zero {f : Int → Int} (h : ∀ n, f n = 0) : ∀ n, D f n = 0 := fun n => by unfold D; rw [h, h]; rfl
theorem Dk_zero : ∀ (k : Nat) {f : Int → Int}, (∀ n, f n = 0) → ∀ n, Dk k f n = 0
  | 0, _, h => h
  | k + 1, _, h => Dk_zero k (D_zero h)
theorem Dk_le {f : Int → Int} {a b : Nat} (hab : a ≤ b) (h : ∀ n, Dk a f n = 0) : ∀ n, Dk b f n = 0 := by
  induction b with
  | zero => rw [Nat.le_zero.mp hab] at h; exact h
  | succ b ih =>
    rcases Nat.lt_or_ge b a with h1 | h1
    · rw [show b + 1 = a by omega]; exact h
    · rw [Dk_succ]; exact D_zero (ih h1)
theorem Dk_add : ∀ (k : Nat) (f g : Int → Int) (n : Int), Dk k (fun x => f x + g x) n = Dk k f n + Dk k g n
  | 0, _, _, _ => rfl
  | k + 1, f, g, n => by
    have ih := Dk_add k (D f) (D g) n
    show Dk k (D fun x => f x + g x) n = Dk k (D f) n + Dk k (D g) n
    rw [← ih]
    congr 1
    funext x
    show f (x + 1) + g (x + 1) - (f x + g x) = f (x + 1) - f x + (g (x + 1) - g x)
    omega
theorem Dk_mul : ∀ (k : Nat) (c : Int) (f : Int → Int) (n : Int), Dk k (fun x => c * f x) n = c * Dk k f n
  | 0, _, _, _ => rfl
  | k + 1, c, f, n => by
    have ih := Dk_mul k c (D f) n
    show Dk k (D fun x => c * f x) n = c * Dk k (D f) n
    rw [← ih]
    congr 1
    funext x
    show c * f (x + 1) - c * f x = c * (f (x + 1) - f x)
    rw [Int.mul_sub]
theorem Dk_shift : ∀ (k : Nat) (f : Int → Int) (d n : Int), Dk k (fun x => f (x + d)) n = Dk k f (n + d)
  | 0, _, _, _ => rfl
  | k + 1, f, d, n => by
    have ih := Dk_shift k (D f) d n
    show Dk k (D fun x => f (x + d)) n = Dk k (D f) (n + d)
    rw [← ih]
    congr 1
    funext x
    show f (x + 1 + d) - f (x + d) = f (x + d + 1) - f (x + d)
    rw [show x + 1 + d = x + d + 1 by omega]
theorem D_prod (f g : Int → Int) : D (fun x => f x * g x) = fun x => D f x * g (x + 1) + f x * D g x := by
  funext x
  show f (x + 1) * g (x + 1) - f x * g x = (f (x + 1) - f x) * g (x + 1) + f x * (g (x + 1) - g x)
  rw [Int.sub_mul, Int.mul_sub]
  omega
/-- a product of degrees i and j, its highest difference -/
theorem Dk_top : ∀ (s i j : Nat), i + j = s → ∃ c : Nat, 1 ≤ c ∧ ∀ (f g : Int → Int) (u v : Int), (∀ n, Dk i f n = u) → (∀ n, Dk j g n = v) → ∀ n, Dk (i + j) (fun x => f x * g x) n = c * (u * v) := by
  intro s
  induction s with
  | zero =>
    intro i j h
    obtain rfl : i = 0 := by omega
    obtain rfl : j = 0 := by omega
    refine ⟨1, Nat.le_refl _, fun f g u v hf hg n => ?_⟩
    show f n * g n = (1 : Nat) * (u * v)
    have h1 : f n = u := hf n
    have h2 : g n = v := hg n
    rw [h1, h2]; omega
  | succ s ih =>
    intro i j h
    match i, j, h with
    | 0, j + 1, h =>
      refine ⟨1, Nat.le_refl _, fun f g u v hf hg n => ?_⟩
      have e : (fun x => f x * g x) = fun x => u * g x := by funext x; rw [show f x = u from hf x]
      rw [e, Dk_mul, show 0 + (j + 1) = j + 1 by omega, hg]; omega
    | i + 1, 0, h =>
      refine ⟨1, Nat.le_refl _, fun f g u v hf hg n => ?_⟩
      have e : (fun x => f x * g x) = fun x => v * f x := by funext x; rw [show g x = v from hg x, Int.mul_comm]
      rw [e, Dk_mul, show i + 1 + 0 = i + 1 by omega, hf, Int.mul_comm]; omega
    | i + 1, j + 1, h =>
      obtain ⟨c1, l1, h1⟩ := ih i (j + 1) (by omega)
      obtain ⟨c2, l2, h2⟩ := ih (i + 1) j (by omega)
      refine ⟨c1 + c2, by omega, fun f g u v hf hg n => ?_⟩
      show Dk (i + 1 + j) (D fun x => f x * g x) n = _
      rw [D_prod, Dk_add]
      have a1 := h1 (D f) (fun x => g (x + 1)) u v hf (fun n => by rw [Dk_shift]; exact hg _) n
      have a2 := h2 f (D g) u v hf hg n
      rw [show i + (j + 1) = i + 1 + j by omega] at a1
      rw [a1, a2, show ((c1 + c2 : Nat) : Int) = (c1 : Int) + (c2 : Int) by omega, Int.add_mul]
theorem Dk_prod {a b : Nat} {f g : Int → Int} (hf : ∀ n, Dk a f n = 0) (hg : ∀ n, Dk b g n = 0) : ∀ n, Dk (a + b - 1) (fun x => f x * g x) n = 0 := by
  cases a with
  | zero => exact Dk_zero _ fun n => by rw [show f n = 0 from hf n, Int.zero_mul]
  | succ a =>
    cases b with
    | zero => exact Dk_zero _ fun n => by rw [show g n = 0 from hg n, Int.mul_zero]
    | succ b =>
      have e : a + 1 + (b + 1) - 1 = (a + b) + 1 := by omega
      rw [e, Dk_succ]
      -- both highest differences are constant
      have cf : ∀ n, Dk a f n = Dk a f 0 := by
        have st : ∀ n, Dk a f (n + 1) = Dk a f n := fun n => by
          have := hf n
          rw [Dk_succ] at this
          have h2 : Dk a f (n + 1) - Dk a f n = 0 := this
          omega
        intro n
        rcases Int.le_total 0 n with h | h
        · obtain ⟨m, rfl⟩ := Int.eq_ofNat_of_zero_le h
          induction m with
          | zero => rfl
          | succ m im => rw [show ((m + 1 : Nat) : Int) = (m : Int) + 1 by omega, st]; exact im (by omega)
        · obtain ⟨m, hm⟩ := Int.eq_ofNat_of_zero_le (show 0 ≤ -n by omega)
          obtain rfl : n = -(m : Int) := by omega
          clear hm h
          induction m with
          | zero => rfl
          | succ m im => rw [← st, show -((m + 1 : Nat) : Int) + 1 = -(m : Int) by omega]; exact im
      have cg : ∀ n, Dk b g n = Dk b g 0 := by
        have st : ∀ n, Dk b g (n + 1) = Dk b g n := fun n => by
          have := hg n
          rw [Dk_succ] at this
          have h2 : Dk b g (n + 1) - Dk b g n = 0 := this
          omega
        intro n
        rcases Int.le_total 0 n with h | h
        · obtain ⟨m, rfl⟩ := Int.eq_ofNat_of_zero_le h
          induction m with
          | zero => rfl
          | succ m im => rw [show ((m + 1 : Nat) : Int) = (m : Int) + 1 by omega, st]; exact im (by omega)
        · obtain ⟨m, hm⟩ := Int.eq_ofNat_of_zero_le (show 0 ≤ -n by omega)
          obtain rfl : n = -(m : Int) := by omega
          clear hm h
          induction m with
          | zero => rfl
          | succ m im => rw [← st, show -((m + 1 : Nat) : Int) + 1 = -(m : Int) by omega]; exact im
      obtain ⟨c, _, hc⟩ := Dk_top (a + b) a b rfl
      intro n
      unfold D
      rw [hc f g _ _ cf cg, hc f g _ _ cf cg]
      omega
/-- the differences of a polynomial -/
theorem D_pol (r : List Int) : D (pol r) = pol (r.drop 1) := by
  funext n
  exact pol_step n r
theorem Dk_pol : ∀ (k : Nat) (r : List Int), Dk k (pol r) = pol (r.drop k)
  | 0, _ => rfl
  | k + 1, r => by
    show Dk k (D (pol r)) = _
    rw [D_pol, Dk_pol k, List.drop_drop, Nat.add_comm]
theorem Dk_pol0 (r : List Int) : ∀ n, Dk r.length (pol r) n = 0 := fun n => by
  rw [Dk_pol, List.drop_length]
  rfl
/-- the first m differences of f at b -/
def newt : Nat → (Int → Int) → Int → List Int
  | 0, _, _ => []
  | m + 1, f, b => f b :: newt m (D f) b
theorem newt_length : ∀ (m : Nat) (f : Int → Int) (b : Int), (newt m f b).length = m
  | 0, _, _ => rfl
  | m + 1, f, b => by show (newt m (D f) b).length + 1 = m + 1; rw [newt_length]
theorem newt_get : ∀ (m : Nat) (f : Int → Int) (b : Int) (k : Nat), k < m → (newt m f b)[k]? = some (Dk k f b)
  | m + 1, f, b, 0, _ => rfl
  | m + 1, f, b, k + 1, h => by
    show (newt m (D f) b)[k]? = _
    rw [newt_get m (D f) b k (by omega)]
    rfl
theorem newton : ∀ (m : Nat) (f : Int → Int), (∀ n, Dk m f n = 0) → ∀ n, pol (newt m f 0) n = f n
  | 0, f, h, n => (h n).symm
  | m + 1, f, h, n => by
    have ih := newton m (D f) h
    have st : ∀ n, pol (newt (m + 1) f 0) (n + 1) - pol (newt (m + 1) f 0) n = f (n + 1) - f n := fun n => by
      rw [pol_step]
      exact ih n
    have h0 : pol (newt (m + 1) f 0) 0 = f 0 := by
      rw [pol_zero]
      show ([f 0] : List Int).sum = f 0
      simp
    rcases Int.le_total 0 n with h | h
    · obtain ⟨k, rfl⟩ := Int.eq_ofNat_of_zero_le h
      clear h
      induction k with
      | zero => exact h0
      | succ k ik =>
        have := st (k : Int)
        rw [show ((k + 1 : Nat) : Int) = (k : Int) + 1 by omega]
        omega
    · obtain ⟨k, hk⟩ := Int.eq_ofNat_of_zero_le (show 0 ≤ -n by omega)
      obtain rfl : n = -(k : Int) := by omega
      clear hk h
      induction k with
      | zero => exact h0
      | succ k ik =>
        have := st (-((k + 1 : Nat) : Int))
        rw [show -((k + 1 : Nat) : Int) + 1 = -(k : Int) by omega] at this
        omega
/-- the values of f at b, b + 1 .. -/
def vals (m : Nat) (f : Int → Int) (b : Int) : List Int := (List.range m).map fun (i : Nat) => f (b + (i : Int))
theorem vals_length (m : Nat) (f : Int → Int) (b : Int) : (vals m f b).length = m := by simp [vals]
theorem vals_get {m : Nat} {f : Int → Int} {b : Int} {i : Nat} (h : i < m) : (vals m f b)[i]? = some (f (b + (i : Int))) := by
  unfold vals
  rw [List.getElem?_map, List.getElem?_range h]
  rfl
/-- one row of differences -/
def nbr (r : List Int) : List Int := List.zipWith (fun v l => l - v) r (r.drop 1)
theorem nbr_length (r : List Int) : (nbr r).length = r.length - 1 := by
  unfold nbr
  rw [List.length_zipWith, List.length_drop]
  omega
theorem nbr_vals (m : Nat) (f : Int → Int) (b : Int) : nbr (vals (m + 1) f b) = vals m (D f) b := by
  apply List.ext_getElem?
  intro i
  by_cases h : i < m
  · rw [vals_get h]
    unfold nbr
    rw [List.getElem?_zipWith, vals_get (show i < m + 1 by omega), List.getElem?_drop, vals_get (show 1 + i < m + 1 by omega)]
    show some (f (b + ((1 + i : Nat) : Int)) - f (b + (i : Int))) = some (f (b + (i : Int) + 1) - f (b + (i : Int)))
    rw [show b + ((1 + i : Nat) : Int) = b + (i : Int) + 1 by omega]
  · have h1 : (nbr (vals (m + 1) f b)).length ≤ i := by rw [nbr_length, vals_length]; omega
    have h2 : (vals m (D f) b).length ≤ i := by rw [vals_length]; omega
    rw [List.getElem?_eq_none h1, List.getElem?_eq_none h2]
/-- the rows of differences, their first entries; the first k of them -/
def rowD : Nat → List Int → List Int
  | 0, r => r
  | k + 1, r => rowD k (nbr r)
theorem rowD_succ : ∀ (k : Nat) (r : List Int), rowD (k + 1) r = nbr (rowD k r)
  | 0, _ => rfl
  | k + 1, r => rowD_succ k (nbr r)
theorem rowD_length : ∀ (k : Nat) (r : List Int), (rowD k r).length = r.length - k
  | 0, _ => rfl
  | k + 1, r => by
    show (rowD k (nbr r)).length = _
    rw [rowD_length k, nbr_length]
    omega
def difs : Nat → List Int → List Int
  | 0, _ => []
  | k + 1, r => r.take 1 ++ difs k (nbr r)
theorem difs_vals : ∀ (m : Nat) (f : Int → Int) (b : Int), difs m (vals m f b) = newt m f b
  | 0, _, _ => rfl
  | m + 1, f, b => by
    show (vals (m + 1) f b).take 1 ++ difs m (nbr (vals (m + 1) f b)) = f b :: newt m (D f) b
    rw [nbr_vals, difs_vals m]
    have : (vals (m + 1) f b).take 1 = [f b] := by
      apply List.ext_getElem?
      intro i
      cases i with
      | zero =>
        rw [List.getElem?_take_of_lt (by omega), vals_get (by omega), show b + ((0 : Nat) : Int) = b by omega]
        rfl
      | succ i =>
        rw [List.getElem?_take_eq_none (by omega)]
        rfl
    rw [this]
    rfl
theorem difs_snoc : ∀ (k : Nat) (r : List Int), difs (k + 1) r = difs k r ++ (rowD k r).take 1
  | 0, r => by show r.take 1 ++ [] = [] ++ r.take 1; simp
  | k + 1, r => by
    show r.take 1 ++ difs (k + 1) (nbr r) = (r.take 1 ++ difs k (nbr r)) ++ (rowD k (nbr r)).take 1
    rw [difs_snoc k, List.append_assoc]
/-- a place earlier: from the last difference on -/
def earl : List Int → List Int
  | [] => []
  | d :: r => (d - (earl r).headD 0) :: earl r
theorem earl_newt : ∀ (m : Nat) (f : Int → Int) (b : Int), (∀ n, Dk m f n = 0) → earl (newt m f b) = newt m f (b - 1)
  | 0, _, _, _ => rfl
  | m + 1, f, b, h => by
    have ih := earl_newt m (D f) b h
    show (f b - (earl (newt m (D f) b)).headD 0) :: earl (newt m (D f) b) = f (b - 1) :: newt m (D f) (b - 1)
    rw [ih]
    congr 1
    cases m with
    | zero =>
      have : D f (b - 1) = 0 := h _
      unfold D at this
      rw [show b - 1 + 1 = b by omega] at this
      show f b - 0 = f (b - 1)
      omega
    | succ m =>
      show f b - D f (b - 1) = f (b - 1)
      unfold D
      rw [show b - 1 + 1 = b by omega]
      omega
/-- without the zeros at the end -/
def trim : List Int → List Int
  | [] => []
  | a :: r => match trim r with
    | [] => if a = 0 then [] else [a]
    | b :: s => a :: b :: s
theorem trim_snoc0 : ∀ r : List Int, trim (r ++ [0]) = trim r
  | [] => rfl
  | a :: r => by
    have ih := trim_snoc0 r
    show (match trim (r ++ [0]) with | [] => if a = 0 then [] else [a] | b :: s => a :: b :: s) = _
    rw [ih]
    rfl
theorem trim_snoc : ∀ (r : List Int) {a : Int}, a ≠ 0 → trim (r ++ [a]) = r ++ [a]
  | [], a, h => by show (if a = 0 then [] else [a]) = [a]; rw [if_neg h]
  | c :: r, a, h => by
    have ih := trim_snoc r h
    show (match trim (r ++ [a]) with | [] => if c = 0 then [] else [c] | b :: s => c :: b :: s) = c :: (r ++ [a])
    rw [ih]
    cases r <;> rfl
theorem snoc_of {r : List Int} (h : r ≠ []) : ∃ s a, r = s ++ [a] := ⟨r.dropLast, r.getLast h, (List.dropLast_concat_getLast h).symm⟩
theorem pol_snoc0 (r : List Int) (n : Int) : pol (r ++ [0]) n = pol r n := by
  unfold pol
  rw [pols_snoc, Int.zero_mul, Int.add_zero]
theorem pol_trim_aux : ∀ (k : Nat) (r : List Int), r.length = k → ∀ n, pol (trim r) n = pol r n
  | 0, r, h, n => by rw [List.length_eq_zero_iff.mp h]; rfl
  | k + 1, r, h, n => by
    obtain ⟨s, a, rfl⟩ := snoc_of (r := r) (fun z => by rw [z] at h; cases h)
    by_cases ha : a = 0
    · subst ha
      rw [trim_snoc0, pol_snoc0]
      exact pol_trim_aux k s (by rw [List.length_append] at h; exact Nat.succ.inj h) n
    · rw [trim_snoc s ha]
theorem pol_trim (r : List Int) (n : Int) : pol (trim r) n = pol r n := pol_trim_aux _ r rfl n
/-- no zero at the end -/
def Trm (r : List Int) : Prop := ∀ s a, r = s ++ [a] → a ≠ 0
theorem trim_trm : ∀ (k : Nat) (r : List Int), r.length = k → Trm (trim r)
  | 0, r, h => by
    rw [List.length_eq_zero_iff.mp h]
    intro s a e
    have e2 := congrArg List.length e
    rw [List.length_append] at e2
    exact absurd e2 (by show ¬ 0 = s.length + 1; omega)
  | k + 1, r, h => by
    obtain ⟨s, a, rfl⟩ := snoc_of (r := r) (fun z => by rw [z] at h; cases h)
    by_cases ha : a = 0
    · subst ha
      rw [trim_snoc0]
      exact trim_trm k s (by rw [List.length_append] at h; exact Nat.succ.inj h)
    · rw [trim_snoc s ha]
      intro s2 a2 e
      have := List.append_inj_right' e rfl
      have h3 : a = a2 := by injection this
      rw [← h3]; exact ha
theorem trm_trim {r : List Int} (h : Trm r) : trim r = r := by
  by_cases e : r = []
  · rw [e]; rfl
  · obtain ⟨s, a, rfl⟩ := snoc_of e
    exact trim_snoc s (h s a rfl)
/-! ### polynomials through values, products -/
def earls : Nat → List Int → List Int
  | 0, r => r
  | b + 1, r => earl (earls b r)
theorem earls_newt {m : Nat} {f : Int → Int} {b : Int} (h : ∀ n, Dk m f n = 0) : ∀ j : Nat, earls j (newt m f b) = newt m f (b - (j : Int))
  | 0 => by show newt m f b = newt m f (b - ((0 : Nat) : Int)); rw [show b - ((0 : Nat) : Int) = b by omega]
  | j + 1 => by
    show earl (earls j (newt m f b)) = _
    rw [earls_newt h j, earl_newt m f _ h, show b - (j : Int) - 1 = b - ((j + 1 : Nat) : Int) by omega]
def thru (b : Nat) (r : List Int) : List Int := trim (earls b (difs r.length r))
theorem thru_vals {m : Nat} {f : Int → Int} {b : Nat} (h : ∀ n, Dk m f n = 0) : thru b (vals m f (b : Int)) = trim (newt m f 0) := by
  unfold thru
  rw [vals_length, difs_vals, earls_newt h, show (b : Int) - (b : Int) = 0 by omega]
theorem pol_thru {m : Nat} {f : Int → Int} {b : Nat} (h : ∀ n, Dk m f n = 0) (n : Int) : pol (thru b (vals m f (b : Int))) n = f n := by
  rw [thru_vals h, pol_trim, newton m f h]
theorem thru_trm (b : Nat) (r : List Int) : Trm (thru b r) := trim_trm _ _ rfl
theorem Dk_ge : ∀ (k : Nat) {f : Int → Int} {N : Int}, (∀ n, N ≤ n → f n = 0) → ∀ n, N ≤ n → Dk k f n = 0
  | 0, _, _, h => h
  | k + 1, f, N, h => Dk_ge k fun n hn => by unfold D; rw [h _ (by omega), h _ hn]; rfl
/-- zero from somewhere on: zero -/
theorem zero_of_ge {m : Nat} {f : Int → Int} {N : Int} (hm : ∀ n, Dk m f n = 0) (h : ∀ n, N ≤ n → f n = 0) : ∀ n, f n = 0 := by
  have e : ∀ n, (fun x => f (x + N)) n = 0 := by
    intro n
    refine (newton m (fun x => f (x + N)) (fun n => by rw [Dk_shift]; exact hm _) n).symm.trans ?_
    have z : newt m (fun x => f (x + N)) 0 = List.replicate m 0 := by
      apply List.ext_getElem?
      intro i
      by_cases hi : i < m
      · rw [newt_get m _ _ i hi, Dk_shift, Dk_ge i h _ (by omega), List.getElem?_replicate_of_lt hi]
      · rw [List.getElem?_eq_none (by rw [newt_length]; omega), List.getElem?_eq_none (by rw [List.length_replicate]; omega)]
    rw [z]
    have : ∀ (m j : Nat), pols n j (List.replicate m 0) = 0 := by
      intro m
      induction m with
      | zero => intro j; rfl
      | succ m im => intro j; rw [List.replicate_succ]; show 0 * W n j + pols n (j + 1) (List.replicate m 0) = 0; rw [im]; omega
    exact this m 0
  intro n
  have := e (n - N)
  show f n = 0
  have h2 : f (n - N + N) = 0 := this
  rw [show n - N + N = n by omega] at h2
  exact h2
theorem pol_entry (r : List Int) (k : Nat) : Dk k (pol r) 0 = r.getD k 0 := by
  rw [Dk_pol, pol_zero, List.getD_eq_getElem?_getD]
  cases h : r[k]? with
  | none =>
    rw [List.drop_eq_nil_of_le (List.getElem?_eq_none_iff.mp h)]
    rfl
  | some a =>
    obtain ⟨hk, e⟩ := List.getElem?_eq_some_iff.mp h
    rw [List.drop_eq_getElem_cons hk, e]
    show ([a] : List Int).sum = a
    simp
theorem Trm.last {r : List Int} (h : Trm r) (hr : r ≠ []) : r.getD (r.length - 1) 0 ≠ 0 := by
  obtain ⟨s, a, rfl⟩ := snoc_of hr
  rw [List.getD_eq_getElem?_getD, List.length_append]
  show (s ++ [a])[s.length + 1 - 1]?.getD 0 ≠ 0
  rw [show s.length + 1 - 1 = s.length by omega, List.getElem?_append_right (Nat.le_refl _), Nat.sub_self]
  exact h s a rfl
theorem trm_len {r s : List Int} (hs : Trm s) (e : ∀ k, r.getD k 0 = s.getD k 0) : s.length ≤ r.length := by
  by_cases z : s = []
  · rw [z]; exact Nat.zero_le _
  · have h1 := hs.last z
    have h2 : 0 < s.length := List.length_pos_iff.mpr z
    rcases Nat.lt_or_ge r.length s.length with h | h
    · exfalso
      refine h1 ?_
      rw [← e, List.getD_eq_getElem?_getD, List.getElem?_eq_none (by omega)]
      rfl
    · exact h
theorem pol_inj {r s : List Int} (hr : Trm r) (hs : Trm s) (e : ∀ n, pol r n = pol s n) : r = s := by
  have e1 : pol r = pol s := funext e
  have e2 : ∀ k, r.getD k 0 = s.getD k 0 := fun k => by rw [← pol_entry, ← pol_entry, e1]
  have l1 := trm_len hs e2
  have l2 := trm_len hr fun k => (e2 k).symm
  apply List.ext_getElem (by omega)
  intro i h1 h2
  have := e2 i
  rw [List.getD_eq_getElem?_getD, List.getD_eq_getElem?_getD, List.getElem?_eq_getElem h1, List.getElem?_eq_getElem h2] at this
  exact this
/-- equal from somewhere on -/
theorem pol_inj_ge {r s : List Int} {N : Int} (hr : Trm r) (hs : Trm s) (e : ∀ n, N ≤ n → pol r n = pol s n) : r = s := by
  refine pol_inj hr hs fun n => ?_
  have h1 : ∀ n, Dk (max r.length s.length) (fun x => pol r x + (-1) * pol s x) n = 0 := fun n => by
    rw [Dk_add, Dk_mul, Dk_le (Nat.le_max_left _ _) (Dk_pol0 r), Dk_le (Nat.le_max_right _ _) (Dk_pol0 s)]
    rfl
  have h2 := zero_of_ge h1 (N := N) (fun n hn => by show pol r n + -1 * pol s n = 0; rw [e n hn]; omega) n
  have h3 : pol r n + -1 * pol s n = 0 := h2
  omega
def prodL (r s : List Int) : List Int := thru 0 (vals (r.length + s.length) (fun x => pol r x * pol s x) ((0 : Nat) : Int))
theorem prod_D (r s : List Int) : ∀ n, Dk (r.length + s.length) (fun x => pol r x * pol s x) n = 0 := Dk_le (Nat.sub_le _ 1) (Dk_prod (Dk_pol0 r) (Dk_pol0 s))
theorem pol_prod (r s : List Int) (n : Int) : pol (prodL r s) n = pol r n * pol s n := pol_thru (prod_D r s) n
theorem prod_trm (r s : List Int) : Trm (prodL r s) := thru_trm _ _
theorem prod_comm (r s : List Int) : prodL r s = prodL s r := pol_inj (prod_trm _ _) (prod_trm _ _) fun n => by rw [pol_prod, pol_prod, Int.mul_comm]
theorem trm_nil : Trm [] := fun s a e => by
  have := congrArg List.length e
  rw [List.length_append] at this
  exact absurd this (by show ¬ 0 = s.length + 1; omega)
theorem prod_nil {r s : List Int} (h : r = [] ∨ s = []) : prodL r s = [] := pol_inj (prod_trm _ _) trm_nil fun n => by
  rw [pol_prod]
  rcases h with rfl | rfl
  · show 0 * pol s n = 0; omega
  · show pol r n * 0 = 0; omega
theorem newt_snoc : ∀ (m : Nat) (f : Int → Int) (b : Int), newt (m + 1) f b = newt m f b ++ [Dk m f b]
  | 0, _, _ => rfl
  | m + 1, f, b => by
    show f b :: newt (m + 1) (D f) b = (f b :: newt m (D f) b) ++ [Dk m (D f) b]
    rw [newt_snoc m (D f) b]
    rfl
theorem prod_top {r s : List Int} (hr : Trm r) (hs : Trm s) (r0 : r ≠ []) (s0 : s ≠ []) : (prodL r s).length = r.length + s.length - 1 := by
  have lr : 0 < r.length := List.length_pos_iff.mpr r0
  have ls : 0 < s.length := List.length_pos_iff.mpr s0
  obtain ⟨a, ha⟩ : ∃ a, r.length = a + 1 := ⟨r.length - 1, by omega⟩
  obtain ⟨b, hb⟩ : ∃ b, s.length = b + 1 := ⟨s.length - 1, by omega⟩
  have cr : ∀ n, Dk a (pol r) n = r.getD a 0 := fun n => by
    have h1 : ∀ n, Dk (a + 1) (pol r) n = 0 := by rw [← ha]; exact Dk_pol0 r
    have h2 : ∀ n, Dk a (pol r) n = Dk a (pol r) 0 := by
      have e : Dk a (pol r) = pol (r.drop a) := Dk_pol a r
      have l : (r.drop a).length = 1 := by rw [List.length_drop]; omega
      obtain ⟨x, hx⟩ := List.length_eq_one_iff.mp l
      intro n
      rw [e, hx]
      show x * W n 0 + 0 = x * W 0 0 + 0
      rw [W_r, W_r]
    rw [h2, pol_entry]
  have cs : ∀ n, Dk b (pol s) n = s.getD b 0 := fun n => by
    have h2 : ∀ n, Dk b (pol s) n = Dk b (pol s) 0 := by
      have e : Dk b (pol s) = pol (s.drop b) := Dk_pol b s
      have l : (s.drop b).length = 1 := by rw [List.length_drop]; omega
      obtain ⟨x, hx⟩ := List.length_eq_one_iff.mp l
      intro n
      rw [e, hx]
      show x * W n 0 + 0 = x * W 0 0 + 0
      rw [W_r, W_r]
    rw [h2, pol_entry]
  obtain ⟨c, c1, hc⟩ := Dk_top (a + b) a b rfl
  have top := hc (pol r) (pol s) _ _ cr cs 0
  have nr := hr.last r0
  have ns := hs.last s0
  rw [ha, Nat.add_sub_cancel] at nr
  rw [hb, Nat.add_sub_cancel] at ns
  have nz : (c : Int) * (r.getD a 0 * s.getD b 0) ≠ 0 := Int.mul_ne_zero (by omega) (Int.mul_ne_zero nr ns)
  unfold prodL
  rw [thru_vals (prod_D r s), ha, hb, show a + 1 + (b + 1) = (a + b + 1) + 1 by omega, newt_snoc (a + b + 1)]
  have hz : Dk (a + b + 1) (fun x => pol r x * pol s x) 0 = 0 := by
    have := Dk_prod (a := a + 1) (b := b + 1) (f := pol r) (g := pol s) (by rw [← ha]; exact Dk_pol0 r) (by rw [← hb]; exact Dk_pol0 s) 0
    rw [show a + 1 + (b + 1) - 1 = a + b + 1 by omega] at this
    exact this
  rw [hz, trim_snoc0, newt_snoc (a + b), top, trim_snoc _ nz, List.length_append, newt_length]
  show a + b + 1 = a + b + 1 + 1 - 1
  omega
/-! ### how long the numbers may become -/
def Sz (B : Nat) (r : List Int) : Prop := ∀ a ∈ r, a.natAbs < 2 ^ B
theorem Sz.mono {B C : Nat} {r : List Int} (h : Sz B r) (hl : B ≤ C) : Sz C r := fun a ha => Nat.lt_of_lt_of_le (h a ha) (Nat.pow_le_pow_right (by decide) hl)
theorem pols_size {n : Int} {B b L : Nat} : ∀ (r : List Int) (j : Nat), Sz B r → j + r.length ≤ L → n.natAbs + L ≤ 2 ^ b → (pols n j r).natAbs ≤ r.length * 2 ^ (B + b * L)
  | [], _, _, _, _ => Nat.zero_le _
  | a :: r, j, h, hl, hn => by
    rw [List.length_cons] at hl
    have ih := pols_size (n := n) (B := B) (b := b) (L := L) r (j + 1) (fun x hx => h x (List.mem_cons_of_mem _ hx)) (by omega) hn
    have h1 := h a List.mem_cons_self
    have h2 : (W n j).natAbs ≤ 2 ^ (b * j) := W_size (by omega)
    have h3 : 2 ^ (b * j) ≤ 2 ^ (b * L) := Nat.pow_le_pow_right (by decide) (Nat.mul_le_mul_left _ (by omega))
    have h4 : (a * W n j).natAbs ≤ 2 ^ (B + b * L) := by
      rw [Int.natAbs_mul, Nat.pow_add]
      exact Nat.mul_le_mul (by omega) (by omega)
    show (a * W n j + pols n (j + 1) r).natAbs ≤ (r.length + 1) * 2 ^ (B + b * L)
    rw [Nat.add_mul, Nat.one_mul]
    have := Int.natAbs_add_le (a * W n j) (pols n (j + 1) r)
    omega
theorem pol_size {n : Int} {B b : Nat} {r : List Int} (h : Sz B r) (hn : n.natAbs + r.length ≤ 2 ^ b) : (pol r n).natAbs < 2 ^ (B + b * r.length + r.length) := by
  have h1 := pols_size (n := n) r 0 h (by omega) hn
  have h2 : r.length < 2 ^ r.length := Nat.lt_two_pow_self
  have h3 : 0 < 2 ^ (B + b * r.length) := Nat.pow_pos (by decide)
  have h4 : r.length * 2 ^ (B + b * r.length) < 2 ^ r.length * 2 ^ (B + b * r.length) := Nat.mul_lt_mul_of_pos_right h2 h3
  rw [Nat.add_comm (B + b * r.length), Nat.pow_add 2 r.length]
  show (pols n 0 r).natAbs < _
  omega
theorem nbr_size {B : Nat} {r : List Int} (h : Sz B r) : Sz (B + 1) (nbr r) := fun a ha => by
  unfold nbr at ha
  obtain ⟨i, hi, e⟩ := List.mem_iff_getElem.mp ha
  rw [List.getElem_zipWith] at e
  have h1 := h _ (List.getElem_mem (l := r) (n := i) (by rw [List.length_zipWith] at hi; omega))
  have h2 := h _ (List.mem_of_mem_drop (List.getElem_mem (l := r.drop 1) (n := i) (by rw [List.length_zipWith] at hi; omega)))
  rw [Nat.pow_succ]
  omega
theorem difs_size : ∀ (k : Nat) {B : Nat} {r : List Int}, Sz B r → Sz (B + k) (difs k r)
  | 0, _, _, _ => fun a ha => absurd ha List.not_mem_nil
  | k + 1, B, r, h => fun a ha => by
    rcases List.mem_append.mp ha with h1 | h1
    · exact (h.mono (by omega)) a (List.mem_of_mem_take h1)
    · have := difs_size k (nbr_size h) a h1
      rw [show B + 1 + k = B + (k + 1) by omega] at this
      exact this
theorem mem_trim : ∀ (k : Nat) (r : List Int), r.length = k → ∀ a ∈ trim r, a ∈ r
  | 0, r, h, a, ha => by rw [List.length_eq_zero_iff.mp h] at ha ⊢; exact ha
  | k + 1, r, h, a, ha => by
    obtain ⟨s, b, rfl⟩ := snoc_of (r := r) (fun z => by rw [z] at h; cases h)
    by_cases hb : b = 0
    · subst hb
      rw [trim_snoc0] at ha
      exact List.mem_append_left _ (mem_trim k s (by rw [List.length_append] at h; exact Nat.succ.inj h) a ha)
    · rw [trim_snoc s hb] at ha
      exact ha
theorem trim_size {B : Nat} {r : List Int} (h : Sz B r) : Sz B (trim r) := fun a ha => h a (mem_trim _ r rfl a ha)
theorem earl_size {B : Nat} : ∀ {r : List Int}, Sz B r → Sz (B + r.length) (earl r)
  | [], _ => fun a ha => absurd ha List.not_mem_nil
  | d :: r, h => by
    have ih := earl_size (B := B) (r := r) fun x hx => h x (List.mem_cons_of_mem _ hx)
    have hd : ((earl r).headD 0).natAbs < 2 ^ (B + r.length) := by
      cases e : earl r with
      | nil => exact Nat.pow_pos (by decide)
      | cons x y => exact ih x (by rw [e]; exact List.mem_cons_self)
    intro a ha
    rcases List.mem_cons.mp ha with rfl | ha
    · have h1 := h d List.mem_cons_self
      have h2 : 2 ^ B ≤ 2 ^ (B + r.length) := Nat.pow_le_pow_right (by decide) (by omega)
      show _ < 2 ^ (B + r.length + 1)
      rw [Nat.pow_succ]
      omega
    · exact Nat.lt_of_lt_of_le (ih a ha) (Nat.pow_le_pow_right (by decide) (by show B + r.length ≤ B + (r.length + 1); omega))
theorem earl_length : ∀ r : List Int, (earl r).length = r.length
  | [] => rfl
  | _ :: r => congrArg Nat.succ (earl_length r)
theorem earls_length : ∀ (b : Nat) (r : List Int), (earls b r).length = r.length
  | 0, _ => rfl
  | b + 1, r => (earl_length _).trans (earls_length b r)
theorem earls_size {B : Nat} {r : List Int} (h : Sz B r) : ∀ b : Nat, Sz (B + b * r.length) (earls b r)
  | 0 => by rw [Nat.zero_mul]; exact h
  | b + 1 => by
    have := earl_size (earls_size h b)
    rw [earls_length, show B + b * r.length + r.length = B + (b + 1) * r.length by rw [Nat.add_mul, Nat.one_mul]; omega] at this
    exact this
theorem difs_length : ∀ (k : Nat) (r : List Int), r.length = k → (difs k r).length = k
  | 0, _, _ => rfl
  | k + 1, r, h => by
    show (r.take 1 ++ difs k (nbr r)).length = k + 1
    rw [List.length_append, List.length_take, difs_length k (nbr r) (by rw [nbr_length]; omega)]
    omega
theorem trim_length : ∀ (r : List Int), (trim r).length ≤ r.length
  | [] => Nat.le_refl _
  | a :: r => by
    have ih := trim_length r
    show (match trim r with | [] => if a = 0 then [] else [a] | b :: s => a :: b :: s).length ≤ r.length + 1
    cases e : trim r with
    | nil => dsimp only; split <;> simp
    | cons b s => rw [e] at ih; dsimp only; simp only [List.length_cons] at ih ⊢; omega
theorem thru_length (b : Nat) (r : List Int) : (thru b r).length ≤ r.length := by
  have := trim_length (earls b (difs r.length r))
  rw [earls_length, difs_length _ r rfl] at this
  exact this
theorem thru_size {B b : Nat} {r : List Int} (h : Sz B r) : Sz (B + r.length + b * r.length) (thru b r) := by
  have h1 := earls_size (difs_size r.length h) b
  rw [difs_length _ r rfl] at h1
  exact trim_size h1
theorem vals_size {B m : Nat} {f : Int → Int} {b : Int} (h : ∀ i : Nat, i < m → (f (b + (i : Int))).natAbs < 2 ^ B) : Sz B (vals m f b) := fun a ha => by
  obtain ⟨i, hi, e⟩ := List.mem_map.mp ha
  rw [← e]
  exact h i (List.mem_range.mp hi)
/-- sizes of two factors -/
def POk (B : Nat) (r s : List Int) : Prop := Sz B r ∧ Sz B s ∧ 1 ≤ B ∧ B ≤ 200000 ∧ r.length ≤ 120 ∧ s.length ≤ 120
theorem POk.pols {B : Nat} {r s : List Int} (h : POk B r s) {n : Int} (hn : n.natAbs ≤ 300) : (pol r n).natAbs < 2 ^ (B + 1200) ∧ (pol s n).natAbs < 2 ^ (B + 1200) := by
  obtain ⟨h1, h2, h3, h4, h5, h6⟩ := h
  have a1 := pol_size (n := n) (b := 9) h1 (by show _ ≤ 512; omega)
  have a2 := pol_size (n := n) (b := 9) h2 (by show _ ≤ 512; omega)
  exact ⟨Nat.lt_of_lt_of_le a1 (Nat.pow_le_pow_right (by decide) (by omega)), Nat.lt_of_lt_of_le a2 (Nat.pow_le_pow_right (by decide) (by omega))⟩
theorem prod_length (r s : List Int) : (prodL r s).length ≤ r.length + s.length := by
  have := thru_length 0 (vals (r.length + s.length) (fun x => pol r x * pol s x) ((0 : Nat) : Int))
  rw [vals_length] at this
  exact this
theorem prod_size {B : Nat} {r s : List Int} (h : POk B r s) : Sz (2 * B + 2640) (prodL r s) := by
  have h0 := h
  obtain ⟨h1, h2, h3, h4, h5, h6⟩ := h
  have hv : Sz (2 * B + 2400) (vals (r.length + s.length) (fun x => pol r x * pol s x) ((0 : Nat) : Int)) := vals_size fun i hi => by
    obtain ⟨a1, a2⟩ := h0.pols (n := ((0 : Nat) : Int) + (i : Int)) (by omega)
    show (pol r _ * pol s _).natAbs < _
    rw [Int.natAbs_mul, show 2 * B + 2400 = (B + 1200) + (B + 1200) by omega, Nat.pow_add]
    exact Nat.mul_lt_mul'' a1 a2
  have := thru_size (b := 0) hv
  rw [vals_length] at this
  exact this.mono (by omega)
end K76
namespace K76
open PySem PySem.Spec PyProof.Rows L2
theorem same_upd {H : Hp} {p : Addr} {o : HO} (h : H p = none) : Same H (upd H p o) := fun b x e => by
  rw [upd_ne (ne_of_none e h)]
  exact e
theorem Same.tup {K : PySem.W.Frag} {H H' : Hp} {a : Addr} {xs : List V} (e : Same H H') (h : SqT K H a xs) : SqT K H' a xs := by
  rcases h with (h | ⟨o, h⟩) | h
  · exact .inl (.inl (e _ _ h))
  · exact .inl (.inr ⟨o, e _ _ h⟩)
  · exact .inr h
theorem ixN_nat {n j : Nat} (hj : j < n) : ixN n (j : Int) = some j := by
  unfold ixN
  rw [if_pos (by omega), if_pos (by omega), Int.toNat_natCast]
theorem iteD {c A B : Prop} [Decidable c] (hc : c) (h : A) : if decide c = true then A else B := by
  rw [decide_eq_true hc]
  exact iteT h
theorem iteND {c A B : Prop} [Decidable c] (hc : ¬ c) (h : B) : if decide c = true then A else B := by
  rw [decide_eq_false hc]
  exact iteF h
theorem iteB {b : Bool} {A B : Prop} (hb : b = true) (h : A) : if b = true then A else B := by
  rw [hb]
  exact iteT h
theorem iteNB {b : Bool} {A B : Prop} (hb : b = false) (h : B) : if b = true then A else B := by
  rw [hb]
  exact iteF h
theorem for_enum {K : PySem.W.Frag} {a : Addr} {xs : List V} {g : TG} {tb : TS} {D : Ends} {σ : L2.St} {H : Hp} (Pv : Nat → L2.St → Hp → Prop) (h0 : Pv 0 σ H) (hl : ∀ i σ H, i ≤ xs.length → Pv i σ H → SqL K H a xs)
    (hs : ∀ i x σ H T, xs[i]? = some x → Pv i σ H → H T = none → g (.ref T) σ (upd H T (.tup [.int (i : Nat), x])) fun σ2 H2 => tb { D with nx := Pv (i + 1), ct := Pv (i + 1), bk := D.nx } σ2 H2) (hd : ∀ σ H, Pv xs.length σ H → D.nx σ H) :
    ∃ W : Nat → Nat → L2.St → Hp → Prop, (∃ m, W 0 m σ H) ∧ ∀ i m σ H, W i m σ H →
      ((Ite K a).stop i H ∧ D.nx σ H) ∨ ((Ite K a).go i H ∧ ∃ N : L2.St → Hp → Prop, (∀ σ' H', N σ' H' → ∃ m', m' < m ∧ W (i + 1) m' σ' H') ∧ ∀ x H', (Ite K a).yld i H x H' → g x σ H' fun σ2 H2 => tb { D with nx := N, ct := N, bk := D.nx } σ2 H2) := by
  refine ⟨fun i m σ H => m = xs.length - i ∧ i ≤ xs.length ∧ Pv i σ H, ⟨_, rfl, Nat.zero_le _, h0⟩, ?_⟩
  rintro i m σ H ⟨rfl, hi, p⟩
  have q := hl i σ H hi p
  by_cases hlt : i < xs.length
  · refine .inr ⟨⟨xs, xs[i], q, List.getElem?_eq_getElem hlt⟩, Pv (i + 1), fun σ' H' p' => ⟨xs.length - (i + 1), by omega, rfl, hlt, p'⟩, fun v H' y => ?_⟩
    obtain ⟨T, x, e1, hT, e2, hx⟩ := y
    subst e1 e2
    exact hs i x σ H T (hx xs q) p hT
  · have e : i = xs.length := by omega
    subst e
    exact .inl ⟨⟨xs, q, Nat.le_refl _⟩, hd σ H p⟩
theorem cut_take (xs : List V) (i : Nat) : cutV xs none (some (i : Int)) = xs.take i := by
  unfold cutV
  rw [HT.sIx_none, show HT.sIx xs.length xs.length (some (i : Int)) = min i xs.length from HT.sIx_nat _ _ i, List.drop_zero, Nat.sub_zero]
  by_cases h : i ≤ xs.length
  · rw [Nat.min_eq_left h]
  · rw [Nat.min_eq_right (by omega), List.take_of_length_le (Nat.le_refl _), List.take_of_length_le (by omega)]
theorem cut_drop (xs : List V) (i : Nat) : cutV xs (some (i : Int)) none = xs.drop i := by
  unfold cutV
  rw [HT.sIx_none, show HT.sIx xs.length 0 (some (i : Int)) = min i xs.length from HT.sIx_nat _ _ i]
  by_cases h : i ≤ xs.length
  · rw [Nat.min_eq_left h]
    exact List.take_of_length_le (by rw [List.length_drop]; exact Nat.le_refl _)
  · rw [Nat.min_eq_right (by omega), Nat.sub_self, List.take_zero, List.drop_eq_nil_of_le (by omega)]
/-! ### errors with one value: made, raised, passed on -/
theorem passE {X : Cx} {E : XK} (tk : Takes X (fun cls d _ H => E cls d H)) : Passes (L2.CX X.prog X.w) X E := fun pins σ H s e s' I c => passes_call tk (fun _ _ _ _ h => h) pins σ H s e s' I c
def sp_einit (K : PySem.W.Frag) : Sp := fun vs H Q _ => ∃ (a C : Addr) (y : V), vs = [.ref a, y] ∧ OexC K C ∧ PySem.W.findIn K (.ref C) "value" = some none ∧ H a = some (exo a C none) ∧ ∀ dx, H dx = none → dx ≠ a → Q .non (upd (upd H dx (exd dx [(("value" : Str), y)])) a (exo a C (some dx)))
theorem raised {K : PySem.W.Frag} {C : Addr} {y : V} {H : Hp} {W : Value → Option Addr → Hp → Prop} (ox : OexC K C) (nv : PySem.W.findIn K (.ref C) "value" = some none) (k : ∀ d H', H d = none → Same H H' → H' d = some (.xd [(("value" : Str), y)]) → W (.ref C) (some d) H') :
    ∀ a, H a = none → sp_einit K (.ref a :: ([y] ++ [])) (upd H a (exo a C none)) (fun v H2 => v = .non ∧ ∃ (d : Addr) (fs : List (Str × V)), H2 a = some (exo a C (some d)) ∧ H2 d = some (exd d fs) ∧ H d = none ∧ W (.ref C) (some d) (upd (del H2 a) d (.xd fs))) (fun _ _ _ => False) := by
  intro a ha
  refine ⟨a, C, y, rfl, ox, nv, upd_same, fun dx hdx ne => ⟨rfl, dx, _, upd_same, by rw [upd_ne ne, upd_same], ?_, ?_⟩⟩
  · rw [upd_ne ne] at hdx
    exact hdx
  · rw [upd_ne ne] at hdx
    refine k dx _ hdx (fun b o e => ?_) upd_same
    have n1 := ne_of_none e hdx
    have n2 := ne_of_none e ha
    rw [upd_ne n1, del_ne n2, upd_ne n2, upd_ne n1, upd_ne n2]
    exact e
/-! ### calls whose errors a try around takes, at the slots -/
section
variable {X : Cx} {CX : CXT} {k : Nat} {f C : Addr} {fd : FuncData} {ps : List Str} {sp : Sp} {E : L2.St → XK} {m : Str} {pos apos : Pos} {e o : Expr} {es : List Expr} {ta tb : TE} {t : TA}
def tMethS (C : Addr) (m : Str) (sp : Sp) (E : L2.St → XK) (ta : TE) (t : TA) : TE := fun σ H Q => ta σ H fun x H1 => ∃ (a dx : Addr) (fs : List (Str × V)), x = .ref a ∧ H1 a = some (.ins C dx fs) ∧ fs.lookup m = none ∧ t σ H1 fun vs H2 => sp (.ref a :: vs) H2 Q (E σ)
theorem pe_methS {pl : Sem Bool} (he : PE X o ta) (c : Cls X.K C) (hm : Meth X.K C m f) (F : FnOk X.prog X.w X.K X.mg X.base CX k f fd ps sp) (hr : Room k X.A) (hb : Binds X.K fd ps []) (hx : ∀ σ, PassesAt CX X σ (E σ)) (ha : PA X (e :: es) t)
    (hst : starEach (e :: es) X.env = (false, eval e X.env) :: starEach es X.env := by rfl) (hpl : (backTo pos (starEach es X.env)).any (·.1) = false := by rfl)
    (ht : eval (.Call (.Attribute o m apos) (e :: es) [] pos) X.env = (do
      let ov ← eval o X.env
      standAt apos.atName
      let (f, first) ← holding [ov] (getMethod ov m pl)
      callWith pos f first (backTo pos (starEach (e :: es) X.env)) (backToKw pos (keywordEach [] X.env))) := by rfl) :
    PE X (.Call (.Attribute o m apos) (e :: es) [] pos) (tMethS C m sp E ta t) := by
  refine ⟨fun pins s σ H Q I h => ?_⟩
  refine PySem.W.methodCall_KW (pl := pl) (thn (he.run pins s σ H _ I h) fun u s1 ⟨x, H1, I1, rx, a, dx, fs, ex, ea, l, q⟩ => ?_) ht
  subst ex
  obtain rfl : u = Value.ref a := rx
  refine getmeth_ok I1 ea c hm l ?_
  refine PySem.W.callWith_K (first := [.ref a]) (h₀ := X.base) I.ok.mod.kin hm.kp (thn (ha.run pos pins s1 σ H1 _ I1 q) fun us s2 ⟨vs, H2, I2, r, q2⟩ => ⟨I2.kIn, ?_⟩) hst hpl
  exact run_fnS (us := .ref a :: us) (vs := .ref a :: vs) F hr hb (hx σ) I2 (.cons rfl r) q2
theorem run_fnNS {n : Nat} {ks : List Str} {g : List Value → List Value → List Value} {gV : List V → List V → List V} {pins : List (Addr × Obj)} {σ : L2.St} {H : Hp} {s : Shared} {Q : VK} {us ws : List Value} {vs zs : List V} (F : FnOk X.prog X.w X.K X.mg X.base CX k f fd ps sp) (hr : Room k X.A) (hb : KBn X.K fd ps n ks g gV) (hx : PassesAt CX X σ (E σ))
    (I : Inv X pins σ H s) (r : Vals vs us) (rz : Vals zs ws) (l1 : vs.length = n) (l2 : zs.length = ks.length) (h : sp (gV vs zs) H Q (E σ)) : wpAny (model X.prog X.w) X.A (call (.ref f) us (ks.zip ws)) (EP X pins σ Q) X.xe s := by
  have r2 := hb.rel r rz
  refine wpAny_call (codeAny_mono (F.run X.A X.stack s H ⟨us, ks.zip ws⟩ (g us ws) (gV vs zs) Q (E σ) hr I.env0 (hb.to s us ws I.kIn (r.length.symm.trans l1) (rz.length.symm.trans l2)) r2 h) fun r s' hq => ?_)
  cases r with
  | error e => exact hx pins H s e s' I hq
  | ok fl =>
    cases fl with
    | ret u => exact I.after hq
    | next => exact False.elim hq
    | brk => exact False.elim hq
    | cont => exact False.elim hq
def tMethNS (C : Addr) (m : Str) (n : Nat) (sp : Sp) (gV : List V → List V → List V) (E : L2.St → XK) (ta : TE) (tk : TA) : TE := fun σ H Q => ta σ H fun x H1 => ∃ (a dx : Addr) (fs : List (Str × V)), x = .ref a ∧ H1 a = some (.ins C dx fs) ∧ fs.lookup m = none ∧ tk σ H1 fun zs H2 => zs.length = n ∧ sp (gV [.ref a] zs) H2 Q (E σ)
theorem pe_methNS {ks : List Str} {kws : List Keyword} {tk : TA} {g : List Value → List Value → List Value} {gV : List V → List V → List V} {pl : Sem Bool}
    (he : PE X o ta) (c : Cls X.K C) (hm : Meth X.K C m f) (F : FnOk X.prog X.w X.K X.mg X.base CX k f fd ps sp) (hr : Room k X.A) (hb : KBn X.K fd ps 1 ks g gV) (hx : ∀ σ, PassesAt CX X σ (E σ)) (hkw : PK X kws tk)
    (h1 : (backToKw pos (keywordEach kws X.env)).all (·.1.isSome) = true := by rfl) (h2 : (backToKw pos (keywordEach kws X.env)).filterMap (·.1) = ks := by rfl)
    (h4 : ((backTo pos (starEach [] X.env)).any (·.1) || (backToKw pos (keywordEach kws X.env)).any (·.1.isNone)) = false := by rfl)
    (ht : eval (.Call (.Attribute o m apos) [] kws pos) X.env = (do let ov ← eval o X.env; standAt apos.atName; let (f, first) ← holding [ov] (getMethod ov m pl); callWith pos f first (backTo pos (starEach [] X.env)) (backToKw pos (keywordEach kws X.env))) := by rfl) :
    PE X (.Call (.Attribute o m apos) [] kws pos) (tMethNS C m ks.length sp gV E ta tk) := by
  refine ⟨fun pins s σ H Q I h => PySem.W.methodCall_KW (pl := pl) (thn (he.run pins s σ H _ I h) fun u s1 ⟨x, H1, I1, rx, a, dx, fs, ex, ea, l, q⟩ => ?_) ht⟩
  subst ex
  obtain rfl : u = Value.ref a := rx
  refine getmeth_ok I1 ea c hm l (PySem.W.callWith_KW0 (first := [.ref a]) (h₀ := X.base) I.ok.mod.kin hm.kp h1 (thn (hkw.run pos pins s1 σ H1 _ I1 q) fun ws s2 ⟨zs, H2, I2, rz, l2, q2⟩ => ⟨I2.kIn, ?_⟩) h4)
  rw [h2]
  exact run_fnNS (us := [.ref a]) (vs := [.ref a]) F hr hb (hx σ) I2 (.cons rfl .nil) rz rfl l2 q2
/-- o[i], o of an own class with its own __getitem__ -/
def tIxOwn (C : Addr) (sp : Sp) (E : L2.St → XK) (ta tb : TE) : TE := fun σ H Q => ta σ H fun x H1 => tb σ H1 fun y H2 => ∃ (a dx : Addr) (fs : List (Str × V)), x = .ref a ∧ H2 a = some (.ins C dx fs) ∧ sp [.ref a, y] H2 Q (E σ)
theorem pe_ixOwn (m : Meth X.K C "__getitem__" f) (hfn : PySem.W.fnIn X.K f = true) (F : FnOk X.prog X.w X.K X.mg X.base CX k f fd ps sp) (hr : Room (k + 1) X.A) (hb : Binds X.K fd ps []) (hx : ∀ σ, PassesAt CX X σ (E σ)) (ha : PE X o ta) (hbe : PE X e tb)
    (hsl : ∀ x i, subscripted e true (.ref x) i = runValue (.builtin "lifetime.subscript" ⟨[.ref x, i], []⟩) := by intro _ _; rfl) : PE X (.Subscript o e pos) (tIxOwn C sp E ta tb) := by
  refine ⟨fun pins s σ H Q I h => ?_⟩
  refine Subscript_ (thn (ha.run pins s σ H _ I h) fun v s1 ⟨x, H1, I1, r1, q1⟩ => thn (hbe.run pins s1 σ H1 _ I1 q1) fun u s2 ⟨y, H2, I2, r2, a, dx, fs, ex, ea, q2⟩ => ?_)
  subst ex
  obtain rfl : v = Value.ref a := r1
  obtain ⟨mA, O, _⟩ := ins_get I2.hok ea
  obtain ⟨od, J, _⟩ := O.look
  obtain ⟨m', hF⟩ := I2.fr
  have hl : ([Value.ref a, u] ++ ([] : List Value)).length = ps.length := by
    rw [← F.len _ _ _ _ q2]
    rfl
  refine PySem.W.sub_K hF I.ok.mod.kin J m.at_ hfn m.fn ?_ (hsl _ _)
  refine wpAny_call (codeAny_mono (F.run X.A.in1 X.stack s2 H2 ⟨[.ref a, u], []⟩ [.ref a, u] [.ref a, y] _ (E σ) hr.in1 I2.env0.in1 (hb s2 [.ref a, u] I2.kIn hl) (.cons rfl (.cons r2 .nil)) q2) fun r s' hq => ?_)
  cases r with
  | error er => exact hx σ pins H2 s2 er s' I2 hq
  | ok fl =>
    cases fl with
    | ret w => exact I2.after hq
    | next => exact False.elim hq
    | brk => exact False.elim hq
    | cont => exact False.elim hq
end
/-- outside of a try nothing is let out: the promise must say so -/
theorem passLS {X : Cx} (σ : L2.St) : PassesAt (L2.CX X.prog X.w) X σ E0 := fun pins H s e s' I c => passL pins σ H s e s' I c
theorem pass0S {X : Cx} {E : XK} (σ : L2.St) : PassesAt CX0 X σ E := fun _ _ _ _ _ _ c => c.elim
theorem passES {X : Cx} {E : XK} (tk : Takes X (fun cls d _ H => E cls d H)) (σ : L2.St) : PassesAt (L2.CX X.prog X.w) X σ E := fun pins H s e s' I c => passE tk pins σ H s e s' I c
theorem dp_ints {K : PySem.W.Frag} {H : Hp} : ∀ {ns : List Int}, DpAll K H (ns.map V.int) (ns.map PyData.int)
  | [] => .nil
  | _ :: _ => .cons (.int _) dp_ints
theorem lay_ints : ∀ (ns : List Int), PyData.canLayAll0 (ns.map PyData.int) = true
  | [] => rfl
  | _ :: r => by
    show (true && PyData.canLayAll0 (r.map PyData.int)) = true
    rw [lay_ints r]; rfl
theorem depth_ints : ∀ (ns : List Int), PyData.depthAll (ns.map PyData.int) ≤ 1
  | [] => by simp [PyData.depthAll]
  | a :: r => by
    have := depth_ints r
    simp only [List.map_cons, PyData.depthAll, PyData.depth]
    omega
theorem list_ok (ns : List Int) : SeqAt.shaped (.list (ns.map PyData.int)) = true := by
  unfold SeqAt.shaped
  rw [Bool.and_eq_true]
  have h := depth_ints ns
  exact ⟨lay_ints ns, decide_eq_true (by simp only [PyData.depth]; omega)⟩
def rList (K : PySem.W.Frag) : List V → Hp → VK → Prop := fun xs H Q => ∃ p ys, xs = [.ref p] ∧ (SqL K H p ys ∨ SqT K H p ys) ∧ ∀ l, H l = none → Q (.ref l) (upd H l (.lst ys))
def rLen (K : PySem.W.Frag) : List V → Hp → VK → Prop := fun xs H Q => ∃ p ys, xs = [.ref p] ∧ (SqL K H p ys ∨ SqT K H p ys) ∧ Q (.int ys.length) H
theorem pe_fldK {X : Cx} {K : PySem.W.Frag} (hK : X.K = K) {e : Expr} {f : Str} {pos : Pos} {ta : TE} (he : PE X e ta) (hb : attributeBase e f X.env (eval e X.env) = eval e X.env) : PE X (.Attribute e f pos) (tFld K ta f) := by
  subst hK
  exact pe_fld he hb
theorem pe_bmK {X : Cx} {K : PySem.W.Frag} (hK : X.K = K) {o e : Expr} {es : List Expr} {to : TE} {t : TA} {name : Str} {apos cpos : Pos} {T id : String} {r : V → List V → Hp → VK → Prop}
    (pa : PlainAttrs T) (slot : Slot T name id) (ty : typeOf (.builtin id) = pure (.type "method_descriptor")) (hm : MtR X id r) (ho : PE X o to) (ha : PA X (e :: es) t)
    (h1 : attributeBase o name X.env (eval o X.env) = eval o X.env := by rfl)
    (h2 : ((backTo cpos (starEach (e :: es) X.env)).all (fun x => !x.1) && (backToKw cpos (keywordEach [] X.env)).all (fun x => x.1.isSome) && decide ((e :: es).length + ([] : List Keyword).length + (if ([] : List Keyword).isEmpty then 0 else 1) < 30)) = true := by rfl)
    (h3 : (apos.endLine == cpos.line) = true := by rfl) (h4 : starEach (e :: es) X.env = (false, eval e X.env) :: starEach es X.env := by rfl) (h5 : (backTo cpos (starEach es X.env)).any (·.1) = false := by rfl) :
    PE X (.Call (.Attribute o name apos) (e :: es) [] cpos) (tBM K T r to t) := by
  subst hK
  exact pe_bm pa slot ty hm ho ha h1 h2 h3 h4 h5
def rEqOwn (C : Addr) (sp : Sp) (E : XK) : R2 := fun x y H Q => ∃ a b dx dy fs gs, x = .ref a ∧ y = .ref b ∧ H a = some (.ins C dx fs) ∧ H b = some (.ins C dy gs) ∧ sp [.ref a, .ref b] H Q E
theorem op_RShiftOwn {X : Cx} {k : Nat} {C f : Addr} {fd : FuncData} {ps : List Str} {sp : Sp} (hc : PySem.W.selfFirst X.K C = true) (m : Meth X.K C "__rshift__" f) (F : FnOk X.prog X.w X.K X.mg X.base CX0 k f fd ps sp) (hr : Room k X.A) (hb : Binds X.K fd ps []) : OpR X (binaryOp .RShift) (rEqOwn C sp E0) := by
  intro pins s σ H x y v u Q I rx ry h
  obtain ⟨a, b, dx, dy, fs, gs, rfl, rfl, ha, hb', h⟩ := h
  obtain rfl : v = Value.ref a := rx
  obtain rfl : u = Value.ref b := ry
  obtain ⟨mA, J, _⟩ := ins_get I.hok ha
  obtain ⟨mB, J', _⟩ := ins_get I.hok hb'
  obtain ⟨od, J, _⟩ := J.look
  obtain ⟨od', J', _⟩ := J'.look
  obtain ⟨m', hF⟩ := I.fr
  have hl : ([Value.ref a, Value.ref b] ++ ([] : List Value)).length = ps.length := by
    rw [← F.len _ _ _ _ h]
    rfl
  refine PySem.W.binop_K (op := .RShift) hF I.ok.mod.kin J J'.type hc m.at_ m.fn ?_
  refine wpAny_call (codeAny_mono (F.run X.A X.stack s H ⟨[.ref a, .ref b], []⟩ [.ref a, .ref b] [.ref a, .ref b] _ E0 hr I.env0 (hb s [.ref a, .ref b] I.kIn hl) (.cons rfl (.cons rfl .nil)) h) fun r s' hq => ?_)
  cases r with
  | error er => exact False.elim hq
  | ok fl =>
    cases fl with
    | ret w =>
      obtain ⟨z', H', I', rz, qz⟩ := I.after hq
      exact SlX.cmpback rz ⟨z', H', I', rz, qz⟩
    | next => exact False.elim hq
    | brk => exact False.elim hq
    | cont => exact False.elim hq
/-- a tuple as a comprehension's target -/
theorem pg_tupK {X : Cx} {K : PySem.W.Frag} (hK : X.K = K) {es : List Expr} {k : Nat} {pos : Pos} {t : TGs} {n : Nat} (hc : X.calm = true) (h : PGs X es t)
    (hn : (assignEach es X.env).length = n := by rfl) (hst : (assignEach es X.env).findIdx? (·.1) = none := by rfl) : PG X (.Tuple es k pos) (gTup K n t) := by
  subst hK
  exact pg_tup hc h hn hst
def topS (i : Nat) : Stmt := PySem.Challenge.pw_plandays_k76_steps_of_one_and_then_the_o.main.body.getD i (.Pass ⟨0, 0, 0, 0⟩)
abbrev s_PlanError_init : Stmt := inClass (topS 3) 0
theorem sc_PlanError_init : FnScope ["self", "value"] ["self", "value"] (defScope s_PlanError_init) := ⟨rfl, rfl, rfl, by decide +kernel, rfl, by decide +kernel, by decide +kernel⟩
abbrev s_value_at : Stmt := topS 19
theorem sc_value_at : FnScope ["poly", "n", "total", "ways", "j", "entry"] ["poly", "n"] (defScope s_value_at) := ⟨rfl, rfl, rfl, by decide +kernel, rfl, by decide +kernel, by decide +kernel⟩
abbrev s_without_zeros : Stmt := topS 20
theorem sc_without_zeros : FnScope ["poly", "many"] ["poly"] (defScope s_without_zeros) := ⟨rfl, rfl, rfl, by decide +kernel, rfl, by decide +kernel, by decide +kernel⟩
abbrev s_differences_of : Stmt := topS 21
theorem sc_differences_of : FnScope ["values", "found", "row", "value", "later"] ["values"] (defScope s_differences_of) := ⟨rfl, rfl, rfl, by decide +kernel, rfl, by decide +kernel, by decide +kernel⟩
abbrev s_one_earlier : Stmt := topS 22
theorem sc_one_earlier : FnScope ["differences", "earlier", "last", "difference"] ["differences"] (defScope s_one_earlier) := ⟨rfl, rfl, rfl, by decide +kernel, rfl, by decide +kernel, by decide +kernel⟩
abbrev s_polynomial_through : Stmt := topS 23
theorem sc_polynomial_through : FnScope ["begin", "values", "entries", "_"] ["begin", "values"] (defScope s_polynomial_through) := ⟨rfl, rfl, rfl, by decide +kernel, rfl, by decide +kernel, by decide +kernel⟩
abbrev s_least_begin : Stmt := topS 25
theorem sc_least_begin : FnScope ["firsts", "poly", "begin"] ["firsts", "poly"] (defScope s_least_begin) := ⟨rfl, rfl, rfl, by decide +kernel, rfl, by decide +kernel, by decide +kernel⟩
abbrev s_one_after_other : Stmt := topS 33
theorem sc_one_after_other : FnScope ["one", "other", "many", "mine", "others", "steps", "n", "number", "later", "k"] ["one", "other", "many"] (defScope s_one_after_other) := ⟨rfl, rfl, rfl, by decide +kernel, rfl, by decide +kernel, by decide +kernel⟩
abbrev s_Counted_init : Stmt := inClass (topS 34) 0
theorem sc_Counted_init : FnScope ["self", "firsts", "poly"] ["self", "firsts", "poly"] (defScope s_Counted_init) := ⟨rfl, rfl, rfl, by decide +kernel, rfl, by decide +kernel, by decide +kernel⟩
abbrev s_Counted_begin : Stmt := inClass (topS 34) 2
theorem sc_Counted_begin : FnScope ["self"] ["self"] (defScope s_Counted_begin) := ⟨rfl, rfl, rfl, by decide +kernel, rfl, by decide +kernel, by decide +kernel⟩
abbrev s_Counted_firsts : Stmt := inClass (topS 34) 3
theorem sc_Counted_firsts : FnScope ["self"] ["self"] (defScope s_Counted_firsts) := ⟨rfl, rfl, rfl, by decide +kernel, rfl, by decide +kernel, by decide +kernel⟩
abbrev s_Counted_poly : Stmt := inClass (topS 34) 4
theorem sc_Counted_poly : FnScope ["self"] ["self"] (defScope s_Counted_poly) := ⟨rfl, rfl, rfl, by decide +kernel, rfl, by decide +kernel, by decide +kernel⟩
abbrev s_Counted_getitem : Stmt := inClass (topS 34) 5
theorem sc_Counted_getitem : FnScope ["self", "at"] ["self", "at"] (defScope s_Counted_getitem) := ⟨rfl, rfl, rfl, by decide +kernel, rfl, by decide +kernel, by decide +kernel⟩
abbrev s_Counted_rshift : Stmt := inClass (topS 34) 10
theorem sc_Counted_rshift : FnScope ["self", "other", "begin", "numbers"] ["self", "other"] (defScope s_Counted_rshift) := ⟨rfl, rfl, rfl, by decide +kernel, rfl, by decide +kernel, by decide +kernel⟩
abbrev s_law_deck : Stmt := topS 36
theorem sc_law_deck : FnScope ["script", "mixed", "cell", "great"] ["script"] (defScope s_law_deck) := ⟨rfl, rfl, rfl, by decide +kernel, rfl, by decide +kernel, by decide +kernel⟩
abbrev s_law_draw : Stmt := topS 37
theorem sc_law_draw : FnScope ["deck", "many", "one"] ["deck", "many"] (defScope s_law_draw) := ⟨rfl, rfl, rfl, by decide +kernel, rfl, by decide +kernel, by decide +kernel⟩
abbrev s_law_great : Stmt := topS 38
theorem sc_law_great : FnScope ["deck", "many", "one", "k"] ["deck", "many"] (defScope s_law_great) := ⟨rfl, rfl, rfl, by decide +kernel, rfl, by decide +kernel, by decide +kernel⟩
abbrev s_law_list : Stmt := topS 39
theorem sc_law_list : FnScope ["deck", "most", "top", "times", "found", "k"] ["deck", "most"] (defScope s_law_list) := ⟨rfl, rfl, rfl, by decide +kernel, rfl, by decide +kernel, by decide +kernel⟩
abbrev s_law_value : Stmt := topS 40
theorem sc_law_value : FnScope ["row", "at", "total", "ways", "k", "entry"] ["row", "at"] (defScope s_law_value) := ⟨rfl, rfl, rfl, by decide +kernel, rfl, by decide +kernel, by decide +kernel⟩
abbrev s_law_lists : Stmt := topS 41
theorem sc_law_lists : FnScope ["deck", "most", "heads", "row", "low", "at"] ["deck", "most"] (defScope s_law_lists) := ⟨rfl, rfl, rfl, by decide +kernel, rfl, by decide +kernel, by decide +kernel⟩
abbrev s_law_numbers : Stmt := topS 42
theorem sc_law_numbers : FnScope ["heads", "row", "many", "at"] ["heads", "row", "many"] (defScope s_law_numbers) := ⟨rfl, rfl, rfl, by decide +kernel, rfl, by decide +kernel, by decide +kernel⟩
abbrev s_law_told_right : Stmt := topS 43
theorem sc_law_told_right : FnScope ["counted", "numbers", "most", "row", "begin", "heads", "entry", "at"] ["counted", "numbers", "most"] (defScope s_law_told_right) := ⟨rfl, rfl, rfl, by decide +kernel, rfl, by decide +kernel, by decide +kernel⟩
abbrev s_law_refused : Stmt := topS 44
theorem sc_law_refused : FnScope ["counted", "at", "worth", "e"] ["counted", "at"] (defScope s_law_refused) := ⟨rfl, rfl, rfl, by decide +kernel, rfl, by decide +kernel, by decide +kernel⟩
abbrev s_law_followed : Stmt := topS 45
theorem sc_law_followed : FnScope ["one", "two", "steps", "k", "last_day"] ["one", "two"] (defScope s_law_followed) := ⟨rfl, rfl, rfl, by decide +kernel, rfl, by decide +kernel, by decide +kernel⟩
abbrev s_law : Stmt := topS 46
theorem sc_law : FnScope ["script", "deck", "most", "data", "made", "one", "two", "size", "many", "left", "right", "counted", "due", "heads", "row", "at"] ["script"] (defScope s_law) := ⟨rfl, rfl, rfl, by decide +kernel, rfl, by decide +kernel, by decide +kernel⟩
/-- what the top has written, as the walks ask it -/
structure Tx (K : PySem.W.Frag) (w : World) (mg : Str → Option Value) where
  C_Counted : Addr
  cl_Counted : Cls K C_Counted
  mg_Counted : mg "Counted" = some (.ref C_Counted)
  n_Counted_poly : NoAttr K C_Counted "_poly"
  n_Counted_firsts : NoAttr K C_Counted "_firsts"
  f_PlanError_init : Addr
  C_InvalidNumber : Addr
  mg_InvalidNumber : mg "InvalidNumber" = some (.ref C_InvalidNumber)
  ox_InvalidNumber : OexC K C_InvalidNumber
  ic_InvalidNumber : PySem.W.findIn K (.ref C_InvalidNumber) "__init__" = some (some (.ref f_PlanError_init))
  nv_InvalidNumber : PySem.W.findIn K (.ref C_InvalidNumber) "value" = some none
  xf_InvalidNumber : XfC K C_InvalidNumber
  ti : PySem.W.typeIn K (.ref f_PlanError_init) = some (.type "function")
  C_PlanError : Addr
  mg_PlanError : mg "PlanError" = some (.ref C_PlanError)
  em_InvalidNumber_InvalidNumber : PySem.W.exmOne K (.ref C_InvalidNumber) (.ref C_InvalidNumber) = some true
  d_PlanError_init : FuncData
  F_PlanError_init : Fun K "__init__" "PlanError.__init__" s_PlanError_init f_PlanError_init d_PlanError_init
  b_PlanError_init : Binds K d_PlanError_init ["self", "value"] []
  f_value_at : Addr
  d_value_at : FuncData
  F_value_at : Fun K "value_at" "value_at" s_value_at f_value_at d_value_at
  b_value_at : Binds K d_value_at ["poly", "n"] []
  g_value_at : mg "value_at" = some (.ref f_value_at)
  f_without_zeros : Addr
  d_without_zeros : FuncData
  F_without_zeros : Fun K "without_zeros" "without_zeros" s_without_zeros f_without_zeros d_without_zeros
  b_without_zeros : Binds K d_without_zeros ["poly"] []
  g_without_zeros : mg "without_zeros" = some (.ref f_without_zeros)
  f_differences_of : Addr
  d_differences_of : FuncData
  F_differences_of : Fun K "differences_of" "differences_of" s_differences_of f_differences_of d_differences_of
  b_differences_of : Binds K d_differences_of ["values"] []
  g_differences_of : mg "differences_of" = some (.ref f_differences_of)
  f_one_earlier : Addr
  d_one_earlier : FuncData
  F_one_earlier : Fun K "_one_earlier" "_one_earlier" s_one_earlier f_one_earlier d_one_earlier
  b_one_earlier : Binds K d_one_earlier ["differences"] []
  g_one_earlier : mg "_one_earlier" = some (.ref f_one_earlier)
  f_polynomial_through : Addr
  d_polynomial_through : FuncData
  F_polynomial_through : Fun K "polynomial_through" "polynomial_through" s_polynomial_through f_polynomial_through d_polynomial_through
  b_polynomial_through : Binds K d_polynomial_through ["begin", "values"] []
  g_polynomial_through : mg "polynomial_through" = some (.ref f_polynomial_through)
  f_least_begin : Addr
  d_least_begin : FuncData
  F_least_begin : Fun K "least_begin" "least_begin" s_least_begin f_least_begin d_least_begin
  b_least_begin : Binds K d_least_begin ["firsts", "poly"] []
  g_least_begin : mg "least_begin" = some (.ref f_least_begin)
  f_one_after_other : Addr
  d_one_after_other : FuncData
  F_one_after_other : Fun K "_one_after_other" "_one_after_other" s_one_after_other f_one_after_other d_one_after_other
  b_one_after_other : Binds K d_one_after_other ["one", "other", "many"] []
  g_one_after_other : mg "_one_after_other" = some (.ref f_one_after_other)
  f_Counted_init : Addr
  d_Counted_init : FuncData
  F_Counted_init : Fun K "__init__" "Counted.__init__" s_Counted_init f_Counted_init d_Counted_init
  b_Counted_init : Binds K d_Counted_init ["self", "firsts", "poly"] []
  mk_Counted : Mk K C_Counted f_Counted_init
  f_Counted_begin : Addr
  d_Counted_begin : FuncData
  F_Counted_begin : Fun K "begin" "Counted.begin" s_Counted_begin f_Counted_begin d_Counted_begin
  b_Counted_begin : Binds K d_Counted_begin ["self"] []
  p_Counted_begin : Addr
  pr_Counted_begin : PropOf K C_Counted "begin" p_Counted_begin f_Counted_begin
  f_Counted_firsts : Addr
  d_Counted_firsts : FuncData
  F_Counted_firsts : Fun K "firsts" "Counted.firsts" s_Counted_firsts f_Counted_firsts d_Counted_firsts
  b_Counted_firsts : Binds K d_Counted_firsts ["self"] []
  p_Counted_firsts : Addr
  pr_Counted_firsts : PropOf K C_Counted "firsts" p_Counted_firsts f_Counted_firsts
  f_Counted_poly : Addr
  d_Counted_poly : FuncData
  F_Counted_poly : Fun K "poly" "Counted.poly" s_Counted_poly f_Counted_poly d_Counted_poly
  b_Counted_poly : Binds K d_Counted_poly ["self"] []
  p_Counted_poly : Addr
  pr_Counted_poly : PropOf K C_Counted "poly" p_Counted_poly f_Counted_poly
  f_Counted_getitem : Addr
  fn_Counted_getitem : PySem.W.fnIn K f_Counted_getitem = true
  d_Counted_getitem : FuncData
  F_Counted_getitem : Fun K "__getitem__" "Counted.__getitem__" s_Counted_getitem f_Counted_getitem d_Counted_getitem
  b_Counted_getitem : Binds K d_Counted_getitem ["self", "at"] []
  me_Counted_getitem : Meth K C_Counted "__getitem__" f_Counted_getitem
  f_Counted_rshift : Addr
  d_Counted_rshift : FuncData
  F_Counted_rshift : Fun K "__rshift__" "Counted.__rshift__" s_Counted_rshift f_Counted_rshift d_Counted_rshift
  b_Counted_rshift : Binds K d_Counted_rshift ["self", "other"] []
  me_Counted_rshift : Meth K C_Counted "__rshift__" f_Counted_rshift
  f_law_deck : Addr
  d_law_deck : FuncData
  F_law_deck : Fun K "_law_deck" "_law_deck" s_law_deck f_law_deck d_law_deck
  b_law_deck : Binds K d_law_deck ["script"] []
  g_law_deck : mg "_law_deck" = some (.ref f_law_deck)
  f_law_draw : Addr
  d_law_draw : FuncData
  F_law_draw : Fun K "_law_draw" "_law_draw" s_law_draw f_law_draw d_law_draw
  b_law_draw : Binds K d_law_draw ["deck", "many"] []
  g_law_draw : mg "_law_draw" = some (.ref f_law_draw)
  f_law_great : Addr
  d_law_great : FuncData
  F_law_great : Fun K "_law_great" "_law_great" s_law_great f_law_great d_law_great
  b_law_great : Binds K d_law_great ["deck", "many"] []
  g_law_great : mg "_law_great" = some (.ref f_law_great)
  f_law_list : Addr
  d_law_list : FuncData
  F_law_list : Fun K "_law_list" "_law_list" s_law_list f_law_list d_law_list
  b_law_list : Binds K d_law_list ["deck", "most"] []
  g_law_list : mg "_law_list" = some (.ref f_law_list)
  f_law_value : Addr
  d_law_value : FuncData
  F_law_value : Fun K "_law_value" "_law_value" s_law_value f_law_value d_law_value
  b_law_value : Binds K d_law_value ["row", "at"] []
  g_law_value : mg "_law_value" = some (.ref f_law_value)
  f_law_lists : Addr
  d_law_lists : FuncData
  F_law_lists : Fun K "_law_lists" "_law_lists" s_law_lists f_law_lists d_law_lists
  b_law_lists : Binds K d_law_lists ["deck", "most"] []
  g_law_lists : mg "_law_lists" = some (.ref f_law_lists)
  f_law_numbers : Addr
  d_law_numbers : FuncData
  F_law_numbers : Fun K "_law_numbers" "_law_numbers" s_law_numbers f_law_numbers d_law_numbers
  b_law_numbers : Binds K d_law_numbers ["heads", "row", "many"] []
  g_law_numbers : mg "_law_numbers" = some (.ref f_law_numbers)
  f_law_told_right : Addr
  d_law_told_right : FuncData
  F_law_told_right : Fun K "_law_told_right" "_law_told_right" s_law_told_right f_law_told_right d_law_told_right
  b_law_told_right : Binds K d_law_told_right ["counted", "numbers", "most"] []
  g_law_told_right : mg "_law_told_right" = some (.ref f_law_told_right)
  f_law_refused : Addr
  d_law_refused : FuncData
  F_law_refused : Fun K "_law_refused" "_law_refused" s_law_refused f_law_refused d_law_refused
  b_law_refused : Binds K d_law_refused ["counted", "at"] []
  g_law_refused : mg "_law_refused" = some (.ref f_law_refused)
  f_law_followed : Addr
  d_law_followed : FuncData
  F_law_followed : Fun K "_law_followed" "_law_followed" s_law_followed f_law_followed d_law_followed
  b_law_followed : Binds K d_law_followed ["one", "two"] []
  g_law_followed : mg "_law_followed" = some (.ref f_law_followed)
  f_law : Addr
  d_law : FuncData
  F_law : Fun K "law" "law" s_law f_law d_law
  b_law : Binds K d_law ["script"] []
  g_law : mg "law" = some (.ref f_law)
  m_all : mg "all" = none
  m_bool : mg "bool" = none
  m_enumerate : mg "enumerate" = none
  m_int : mg "int" = none
  m_isinstance : mg "isinstance" = none
  m_len : mg "len" = none
  m_list : mg "list" = none
  m_range : mg "range" = none
  m_sum : mg "sum" = none
  m_zip : mg "zip" = none
  m_comb : mg "comb" = some (.builtin "math.comb")
  m_zip_longest : mg "zip_longest" = some (.type "itertools.zip_longest")
  sf_Counted : PySem.W.selfFirst K C_Counted = true
  xa_Counted : PySem.W.findIn K (.ref C_Counted) "__class__" = some (some (.builtin "object.__class__"))
  xn_Counted : PySem.W.specialIn K (.builtin "object.__class__") "__get__" = some (some (.builtin "getset_descriptor.__get__"))
  xt_Counted : PySem.W.takesIn K (.builtin "object.__class__") = some true
  xm_Counted : PySem.W.mroIn K C_Counted (.type "object") = some true
section
variable {P : Program} {w : World} {K : PySem.W.Frag} {mg : Str → Option Value} {base : Heap}
/-! ### values of polynomials, walked -/
/-- sizes at which no step of the value is too long -/
def VOk (row : List Int) (n : Int) : Prop := ∃ B b : Nat, (∀ a ∈ row, a.natAbs < 2 ^ B) ∧ n.natAbs + row.length ≤ 2 ^ b ∧ 1 ≤ B ∧ 1 ≤ b ∧ B + b * row.length + b + 2 ≤ 900000 ∧ row.length ≤ 400
theorem VOk.ops {row : List Int} {n a : Int} {i : Nat} (h : VOk row n) (g : row[i]? = some a) : CMulW a (W n i) ∧ CMulW (W n i) (n - (0 + (i : Int))) ∧ CDivW (W n i * (n - (0 + (i : Int)))) (0 + (i : Int) + 1) := by
  obtain ⟨B, b, h1, h2, h3, h4, h5, h6⟩ := h
  have hi := (List.getElem?_eq_some_iff.mp g).1
  have ha := h1 a (List.mem_of_getElem? g)
  have hw : (W n i).natAbs ≤ 2 ^ (b * i) := W_size (by omega)
  have hb : b * i ≤ b * row.length := Nat.mul_le_mul_left _ (by omega)
  have hw2 : (W n i).natAbs < 2 ^ (b * i + 1) := Nat.lt_of_le_of_lt hw (Nat.pow_lt_pow_right (by decide) (by omega))
  have hn : (n - (0 + (i : Int))).natAbs < 2 ^ (b + 1) := Nat.lt_of_le_of_lt (by omega) (Nat.pow_lt_pow_right (by decide) (show b < b + 1 by omega))
  refine ⟨wide_mul ha hw2 (by omega) (by omega) (by omega), wide_mul hw2 hn (by omega) (by omega) (by omega), wide_div (b := 10) (by omega) ?_ (by decide) (by decide)⟩
  show _ < 1024
  omega
theorem W_go (n : Int) (i : Nat) : W n i * (n - (0 + (i : Int))) / (0 + (i : Int) + 1) = W n (i + 1) := by
  rw [Int.zero_add]
  exact W_div n i
def sp_value (K : PySem.W.Frag) : Sp := fun vs H Q _ => ∃ p row n, vs = [.ref p, .int n] ∧ SqL K H p (row.map V.int) ∧ VOk row n ∧ ∀ H', Same H H' → Q (.int (pol row n)) H'
theorem ok_value_at (T : Tx K w mg) : FnOk P w K mg base CX0 1 T.f_value_at T.d_value_at ["poly", "n"] (sp_value K) := by
  refine T.F_value_at.ok sc_value_at (fun vs H Q E h => ?_) (fun cdv A outer s H vs Q E hr h => ?_)
  · obtain ⟨p, row, n, rfl, _⟩ := h
    rfl
  · obtain ⟨p, row, n, rfl, hS, hv, k⟩ := h
    refine ⟨_,
    (pss_cons
      (ps_set (i := 2) sc_value_at.nd rfl (.inl rfl) pe_int)
    (pss_cons
      (ps_set (i := 3) sc_value_at.nd rfl (.inl rfl) pe_int)
    (pss_cons
      (ps_for PassesOwn.never rfl (pi_enum (by rfl) T.m_enumerate (pa_cons (pv 0) pa_nil)) (pg_tup (by rfl) (pgs_cons (pg_name (i := 4) sc_value_at.nd rfl (.inl rfl)) (pgs_cons (pg_name (i := 5) sc_value_at.nd rfl (.inl rfl)) pgs_nil)))
        (pss_cons
          (ps_set (i := 2) sc_value_at.nd rfl (.inl rfl) (pe_op op_add (pv 2) (pe_op op_mulW (pv 5) (pv 3))))
        (pss_one
          (ps_set (i := 3) sc_value_at.nd rfl (.inl rfl) (pe_op op_fdivW (pe_op op_mulW (pv 3) (pe_op op_sub (pv 1) (pv 4))) (pe_op op_add (pv 4) pe_int))))))
    (pss_one
      (ps_ret (pv 2)))))), ?_⟩
    refine ⟨_, rfl, p, _, rfl, hS, for_enum (xs := row.map V.int) (fun i σ H' => Same H H' ∧ ∃ x4 x5, σ = [some (.ref p), some (.int n), some (.int (pol (row.take i) n)), some (.int (W n i)), x4, x5]) ?_ ?_ ?_ ?_⟩
    · exact ⟨Same.refl H, none, none, rfl⟩
    · rintro i σ H' _ ⟨sm, _⟩
      exact sm.seq hS
    · rintro i x σ H1 U hi ⟨sm, x4, x5, rfl⟩ hU
      rw [List.getElem?_map] at hi
      obtain ⟨a, ha, rfl⟩ := Option.map_eq_some_iff.mp hi
      obtain ⟨c1, c2, c3⟩ := hv.ops ha
      rw [Int.zero_add] at c2 c3
      refine ⟨U, _, rfl, .of upd_same, rfl, _, _, rfl, _, _, rfl, rfl, _, rfl, _, rfl, _, rfl, _, _, rfl, rfl, c1, _, _, rfl, rfl, ?_⟩
      refine ⟨_, rfl, _, rfl, _, rfl, _, _, rfl, rfl, _, _, rfl, rfl, c2, _, rfl, _, _, rfl, rfl, _, _, rfl, rfl, c3, ?_⟩
      refine ⟨sm.trans (same_upd hU), some (V.int (i : Nat)), some (V.int a), ?_⟩
      rw [pol_take ha, ← W_div]
      rfl
    · rintro σ H1 ⟨sm, x4, x5, rfl⟩
      rw [List.length_map, List.take_of_length_le (Nat.le_refl _)]
      exact ⟨_, rfl, k H1 sm⟩
theorem kb_value_at (T : Tx K w mg) : KBn K T.d_value_at ["poly", "n"] 0 ["poly", "n"] (fun _ ws => ws) (fun _ zs => zs) := by
  obtain ⟨oc, od, kV, doc, pm, an, cdv, ct, osl, e, _, _⟩ := T.F_value_at.ex
  refine ⟨fun s us ws _ h1 h2 => ?_, fun _ r => r⟩
  rw [e]
  match us, ws, h1, h2 with
  | [], [_, _], _, _ => exact BindsTo.of_eq rfl
/-! ### polynomials walked: without zeros, differences, products -/
theorem map_take_int (r : List Int) (m : Nat) : cutV (r.map V.int) none (some (m : Int)) = (r.take m).map V.int := (cut_take _ m).trans List.map_take.symm
theorem trim_take {r : List Int} {m : Nat} (hm : m < r.length) (h0 : r[m]? = some 0) (h : trim (r.take (m + 1)) = trim r) : trim (r.take m) = trim r := by
  rw [← h, List.take_add_one, h0]
  exact (trim_snoc0 _).symm
theorem trim_done {r : List Int} {m : Nat} {a : Int} (hm : m < r.length) (ha : r[m]? = some a) (h0 : a ≠ 0) (h : trim (r.take (m + 1)) = trim r) : trim r = r.take (m + 1) := by
  rw [← h, List.take_add_one, ha]
  exact trim_snoc _ h0
def sp_trim (K : PySem.W.Frag) : Sp := fun vs H Q _ => ∃ p r, vs = [.ref p] ∧ SqL K H p (r.map V.int) ∧ r.length ≤ 900 ∧ ∀ q, H q = none → Q (.ref q) (upd H q (.lst ((trim r).map V.int)))
theorem ok_without_zeros (T : Tx K w mg) : FnOk P w K mg base CX0 1 T.f_without_zeros T.d_without_zeros ["poly"] (sp_trim K) := by
  refine T.F_without_zeros.ok sc_without_zeros (fun vs H Q E h => ?_) (fun cdv A outer s H vs Q E hr h => ?_)
  · obtain ⟨p, r, rfl, _⟩ := h
    rfl
  · obtain ⟨p, r, rfl, hS, hl, k⟩ := h
    refine ⟨_,
    (pss_cons
      (ps_set (i := 1) sc_without_zeros.nd rfl (.inl rfl) (pe_callB call_len_seq (by rfl) T.m_len (by decide +kernel) (pa_cons (pv 0) pa_nil)))
    (pss_cons
      (ps_while PassesOwn.never (PW.pt (pw_and (pt_cmpR op_gt (pv 1) pe_int (nomark _)) (pw_and1 (pt_cmpR op_eq (pe_ix ix_list (pv 0) (pe_op op_sub (pv 1) pe_int) (fun _ _ => rfl)) pe_int (nomark _)))))
        (pss_one
          (ps_aug (i := 1) sc_without_zeros.nd rfl (.inl rfl) pe_int ip_sub)))
    (pss_one
      (ps_ret (pe_slice sl_list (pv 0) po_none (po_some (pv 1))))))), ?_⟩
    refine ⟨_, rfl, p, _, rfl, .inl hS, ?_⟩
    rw [List.length_map]
    refine ⟨fun t σ H' => H' = H ∧ t ≤ r.length ∧ trim (r.take t) = trim r ∧ σ = [some (.ref p), some (.int (t : Int))], ⟨r.length, rfl, Nat.le_refl _, by rw [List.take_length], rfl⟩, ?_⟩
    rintro t σ H1 ⟨rfl, ht, e, rfl⟩
    refine ⟨_, rfl, _, _, rfl, rfl, _, rfl, ite2 (fun c1 => ?_) (fun c1 => ?_)⟩
    · have t0 : (0 : Int) < (t : Int) := of_decide_eq_true c1
      obtain ⟨m, rfl⟩ : ∃ m, t = m + 1 := ⟨t - 1, by omega⟩
      have hm : m < r.length := by omega
      have ga : r[m]? = some r[m] := List.getElem?_eq_getElem hm
      have gv : (r.map V.int)[m]? = some (V.int r[m]) := by rw [List.getElem?_map, ga]; rfl
      refine ⟨_, rfl, _, rfl, _, _, rfl, rfl, p, _, _, _, rfl, rfl, hS, at_of (j := m) (by omega) gv, rfl, _, rfl, ite2 (fun c2 => ?_) (fun c2 => ?_)⟩
      · have z : r[m] = 0 := V.int.inj (of_decide_eq_true c2)
        refine ⟨fun σ' H' => H' = H1 ∧ σ' = [some (.ref p), some (.int (m : Int))], fun σ' H' ⟨h1, h2⟩ => ⟨m, Nat.lt_succ_self m, h1, by omega, trim_take hm (by rw [ga, z]) e, h2⟩, ?_⟩
        refine ⟨_, rfl, _, _, rfl, rfl, rfl, ?_⟩
        show [some (V.ref p), some (V.int (((m + 1 : Nat) : Int) - 1))] = _
        rw [show ((m + 1 : Nat) : Int) - 1 = (m : Int) by omega]
      · have z : r[m] ≠ 0 := fun z => c2 (decide_eq_true (congrArg V.int z))
        rw [trim_done hm ga z e] at k
        refine ⟨_, rfl, _, rfl, _, rfl, p, _, rfl, hS, fun q hq => ?_⟩
        rw [map_take_int]
        exact k q hq
    · have t0 : t = 0 := by
        have : ¬ (0 : Int) < (t : Int) := fun z => c1 (decide_eq_true z)
        omega
      subst t0
      have e2 : trim r = r.take 0 := by rw [← e]; rfl
      rw [e2] at k
      refine ⟨_, rfl, _, rfl, _, rfl, p, _, rfl, hS, fun q hq => ?_⟩
      rw [show cutV (r.map V.int) none (some ((0 : Nat) : Int)) = (r.take 0).map V.int from map_take_int r 0]
      exact k q hq
/-! ### differences walked -/
/-- a list of ints given out: new, all else as it was -/
def Out (K : PySem.W.Frag) (H : Hp) (Q : VK) (r : List Int) : Prop := ∀ q H', H q = none → Same H H' → H' q = some (.lst (r.map V.int)) → Q (.ref q) H'
theorem difs_len (j : Nat) (r : List Int) : (difs j r).length ≤ j := by
  induction j generalizing r with
  | zero => exact Nat.le_refl _
  | succ j ih =>
    show (r.take 1 ++ difs j (nbr r)).length ≤ j + 1
    have := ih (nbr r)
    rw [List.length_append, List.length_take]
    omega
theorem nbr_get {r : List Int} {i : Nat} {x y : Int} (hx : r[i]? = some x) (hy : r[i + 1]? = some y) : (nbr r).take (i + 1) = (nbr r).take i ++ [y - x] := by
  rw [List.take_add_one]
  congr 1
  unfold nbr
  rw [List.getElem?_zipWith, hx, List.getElem?_drop, Nat.add_comm 1 i, hy]
  rfl
def sp_difs (K : PySem.W.Frag) : Sp := fun vs H Q _ => ∃ p r, vs = [.ref p] ∧ H p = some (.lst (r.map V.int)) ∧ r.length ≤ 900 ∧ Out K H Q (difs r.length r)
theorem ok_differences_of (T : Tx K w mg) : FnOk P w K mg base CX0 1 T.f_differences_of T.d_differences_of ["values"] (sp_difs K) := by
  refine T.F_differences_of.ok sc_differences_of (fun vs H Q E h => ?_) (fun cdv A outer s H vs Q E hr h => ?_)
  · obtain ⟨p, r, rfl, _⟩ := h
    rfl
  · obtain ⟨p, r, rfl, hS, hl, k⟩ := h
    refine ⟨_,
    (pss_cons
      (ps_set (i := 1) sc_differences_of.nd rfl (.inl rfl) (pe_lst pa_nil))
    (pss_cons
      (ps_set (i := 2) sc_differences_of.nd rfl (.inl rfl) (pv 0))
    (pss_cons
      (ps_while PassesOwn.never (pt_truth (pv 2) (by intro _; rfl))
        (pss_cons
          (ps_expr (pe_bm PySem.F.plainAttrs_list PySem.F.slot_list_append PySem.F.type_list_append mt_append (pv 1) (pa_cons (pe_ix ix_list (pv 2) pe_int (fun _ _ => rfl)) pa_nil)))
        (pss_one
          (ps_setLc (i := 2) (own := [("value", 3), ("later", 4)]) (g := gTup K 2 (gCons (gName 3) (gCons (gName 4) gNil))) rfl sc_differences_of.nd rfl rfl (sw_true rfl rfl rfl (by decide +kernel)) (pi_zip (by rfl) T.m_zip (pa_cons (pv 2) (pa_cons (pe_slice sl_list (pv 2) (po_some pe_int) po_none) pa_nil))) (blkOk_by (N := ["values", "found", "row", "value", "later"]) (sc := defScope s_differences_of) (own := [("value", 3), ("later", 4)]) (by decide +kernel)) (fun _ _ _ _ _ => (pg_tupK (K := K) rfl (by rfl) (pgs_cons (pg_name (i := 3) sc_differences_of.nd rfl (.inl rfl)) (pgs_cons (pg_name (i := 4) sc_differences_of.nd rfl (.inl rfl)) pgs_nil)))) (fun _ _ _ _ _ => pts_nil) (fun _ _ _ _ _ => (pe_op op_sub (pv 4) (pv 3)))))))
    (pss_one
      (ps_ret (pv 1)))))), ?_⟩
    refine ⟨Nat.zero_le _, fun D hD => ⟨_, rfl, ?_⟩⟩
    refine ⟨fun t σ H' => ∃ (j : Nat) (R : Addr) (x3 x4 : Option V), j + t = r.length ∧ σ = [some (.ref p), some (.ref D), some (.ref R), x3, x4] ∧ Same H H' ∧ H' D = some (.lst ((difs j r).map V.int)) ∧ H' R = some (.lst ((rowD j r).map V.int)) ∧ R ≠ D,
      ⟨_, 0, p, none, none, Nat.zero_add _, rfl, same_upd hD, upd_same, same_upd hD _ _ hS, ne_of_none hS hD⟩, ?_⟩
    rintro t σ H1 ⟨j, R, x3, x4, hj, rfl, sm, eD, hR, RD⟩
    have hlr := rowD_length j r
    have hld := difs_len j r
    refine ⟨_, rfl, _, .inl ⟨_, .of hR, rfl⟩, ?_⟩
    cases hrow : rowD j r with
    | nil =>
      rw [hrow] at hlr
      obtain rfl : t = 0 := by simp at hlr; omega
      obtain rfl : j = r.length := by omega
      exact ⟨_, rfl, k D H1 hD sm eD⟩
    | cons a rest =>
      have t0 : 0 < t := by rw [hrow] at hlr; simp at hlr; omega
      refine ⟨fun σ' H' => ∃ (R : Addr) (x3 x4 : Option V), σ' = [some (.ref p), some (.ref D), some (.ref R), x3, x4] ∧ Same H H' ∧ H' D = some (.lst ((difs (j + 1) r).map V.int)) ∧ H' R = some (.lst ((rowD (j + 1) r).map V.int)) ∧ R ≠ D,
        fun σ' H' ⟨R, x3, x4, h⟩ => ⟨t - 1, by omega, j + 1, R, x3, x4, by omega, h⟩, ?_⟩
      refine ⟨_, rfl, .inl ⟨rfl, _, .of eD⟩, _, rfl, R, _, _, _, rfl, rfl, .of hR, (by rw [hrow]; exact atI_nat (j := 0) rfl), D, _, _, rfl, rfl, eD, ?_, ?_⟩
      · rw [List.length_map]; exact small1000 (by omega)
      have eD2 : (upd H1 D (.lst ((difs j r).map V.int ++ [V.int a]))) D = some (.lst ((difs (j + 1) r).map V.int)) := by
        rw [upd_same, difs_snoc, hrow, List.map_append]; rfl
      have eR2 : (upd H1 D (.lst ((difs j r).map V.int ++ [V.int a]))) R = some (.lst ((rowD j r).map V.int)) := by rw [upd_ne RD]; exact hR
      have sm2 : Same H (upd H1 D (.lst ((difs j r).map V.int ++ [V.int a]))) := fun b o e => by rw [upd_ne (ne_of_none e hD)]; exact sm b o e
      generalize upd H1 D (.lst ((difs j r).map V.int ++ [V.int a])) = H2 at eD2 eR2 sm2 ⊢
      have lrow : (rowD j r).length = (rest.length + 1) := by rw [hrow]; rfl
      refine ⟨_, rfl, _, rfl, _, rfl, R, _, rfl, .of eR2, fun Y hY => ⟨R, Y, (rowD j r).map V.int, ((rowD j r).drop 1).map V.int, rfl, .of (same_upd hY _ _ eR2), ?_, fun D2 hD2 => ?_⟩⟩
      · rw [show cutV ((rowD j r).map V.int) (some 1) none = ((rowD j r).drop 1).map V.int from (cut_drop _ 1).trans List.map_drop.symm]; exact .of upd_same
      rw [show cutV ((rowD j r).map V.int) (some 1) none = ((rowD j r).drop 1).map V.int from (cut_drop _ 1).trans List.map_drop.symm] at *
      have s3 := (same_upd (o := .lst (((rowD j r).drop 1).map V.int)) hY)
      have eY := (upd_same (H := H2) (a := Y) (o := .lst (((rowD j r).drop 1).map V.int)))
      generalize upd H2 Y (.lst (((rowD j r).drop 1).map V.int)) = H3 at s3 eY hD2 ⊢
      refine lc_it (walk_zip (xs := (rowD j r).map V.int) (ys := ((rowD j r).drop 1).map V.int) (n := rest.length) (by rw [List.length_map, List.length_map, List.length_drop]; omega)) (fun i H' => Same H3 H' ∧ H' D2 = some (.lst (((nbr (rowD j r)).take i).map V.int))) ?_ ?_ ?_ ?_
      · exact ⟨same_upd hD2, upd_same⟩
      · rintro i H' _ ⟨s4, _⟩
        exact ⟨.of (s4 _ _ (s3 _ _ eR2)), .of (s4 _ _ eY)⟩
      · rintro i x H4 H5 hi ⟨s4, e4⟩ ⟨U, u, v, rfl, hU, rfl, hu, hv⟩
        have hu : ((rowD j r).map V.int)[i]? = some u := hu
        have hv : (((rowD j r).drop 1).map V.int)[i]? = some v := hv
        rw [List.getElem?_map] at hu hv
        obtain ⟨u', hu', rfl⟩ := Option.map_eq_some_iff.mp hu
        obtain ⟨v', hv', rfl⟩ := Option.map_eq_some_iff.mp hv
        rw [List.getElem?_drop, Nat.add_comm] at hv'
        have s5 := s4.trans (same_upd (o := .tup [.int u', .int v']) hU)
        refine ⟨U, _, rfl, .of upd_same, rfl, _, _, rfl, _, _, rfl, rfl, rfl, _, rfl, _, rfl, _, _, rfl, rfl, _, same_upd hU _ _ e4, ?_, ?_, ?_⟩
        · rw [List.length_map, List.length_take]; exact small1000 (by omega)
        · intro b o e
          rw [upd_ne (ne_of_none e hD2)]
          exact s5 b o e
        · rw [upd_same, nbr_get hu' hv', List.map_append]; rfl
      · rintro H4 ⟨s4, e4⟩
        have s14 := s3.trans s4
        rw [List.take_of_length_le (by rw [nbr_length]; omega), ← rowD_succ] at e4
        exact ⟨D2, x3, x4, rfl, sm2.trans s14, s14 _ _ eD2, e4, (ne_of_none (s3 _ _ eD2) hD2).symm⟩
theorem earl_step {r : List Int} {i : Nat} {a : Int} (hi : i < r.length) (ha : r[r.length - 1 - i]? = some a) : earl (r.drop (r.length - (i + 1))) = (a - (earl (r.drop (r.length - i))).headD 0) :: earl (r.drop (r.length - i)) := by
  obtain ⟨h1, h2⟩ := List.getElem?_eq_some_iff.mp ha
  have e : r.drop (r.length - (i + 1)) = a :: r.drop (r.length - i) := by
    have h3 : r.length - (i + 1) = r.length - 1 - i := by omega
    rw [h3, List.drop_eq_getElem_cons h1, h2, show r.length - 1 - i + 1 = r.length - i by omega]
  rw [e]
  rfl
def sp_earl (K : PySem.W.Frag) : Sp := fun vs H Q _ => ∃ p r, vs = [.ref p] ∧ SqL K H p (r.map V.int) ∧ r.length ≤ 900 ∧ Out K H Q (earl r)
theorem ok_one_earlier (T : Tx K w mg) : FnOk P w K mg base CX0 1 T.f_one_earlier T.d_one_earlier ["differences"] (sp_earl K) := by
  refine T.F_one_earlier.ok sc_one_earlier (fun vs H Q E h => ?_) (fun cdv A outer s H vs Q E hr h => ?_)
  · obtain ⟨p, r, rfl, _⟩ := h
    rfl
  · obtain ⟨p, r, rfl, hS, hl, k⟩ := h
    refine ⟨_,
    (pss_cons
      (ps_set (i := 1) sc_one_earlier.nd rfl (.inl rfl) (pe_lst pa_nil))
    (pss_cons
      (ps_set (i := 2) sc_one_earlier.nd rfl (.inl rfl) pe_int)
    (pss_cons
      (ps_for PassesOwn.never rfl (pi_list (pe_revL (pv 0))) (pg_name (i := 3) sc_one_earlier.nd rfl (.inl rfl))
        (pss_cons
          (ps_set (i := 2) sc_one_earlier.nd rfl (.inl rfl) (pe_op op_sub (pv 3) (pv 2)))
        (pss_one
          (ps_expr (pe_bm PySem.F.plainAttrs_list PySem.F.slot_list_append PySem.F.type_list_append mt_append (pv 1) (pa_cons (pv 2) pa_nil))))))
    (pss_one
      (ps_ret (pe_revL (pv 1))))))), ?_⟩
    refine ⟨Nat.zero_le _, fun D hD => ?_⟩
    refine ⟨_, rfl, p, _, rfl, (same_upd hD).seq hS, fun R hR => ⟨R, rfl, ⟨_, .of upd_same⟩, ?_⟩⟩
    have s1 := (same_upd (o := .lst []) hD).trans (same_upd (o := .lst (r.map V.int).reverse) hR)
    have eD := same_upd (o := .lst (r.map V.int).reverse) hR _ _ (upd_same (H := H) (a := D) (o := .lst []))
    have eR := upd_same (H := upd H D (.lst [])) (a := R) (o := .lst (r.map V.int).reverse)
    have RD : R ≠ D := (ne_of_none (upd_same (H := H) (a := D) (o := .lst [])) hR).symm
    generalize upd (upd H D (.lst [])) R (.lst (r.map V.int).reverse) = H1 at *
    refine for_list (xs := (r.map V.int).reverse) (fun i σ H' => Same H H' ∧ H' R = some (.lst (r.map V.int).reverse) ∧ H' D = some (.lst ((earl (r.drop (r.length - i))).reverse.map V.int)) ∧ ∃ x3, σ = [some (.ref p), some (.ref D), some (.int ((earl (r.drop (r.length - i))).headD 0)), x3]) ?_ ?_ ?_ ?_
    · refine ⟨s1, eR, ?_, none, ?_⟩
      · rw [Nat.sub_zero, List.drop_length]; exact eD
      · rw [Nat.sub_zero, List.drop_length]; rfl
    · rintro i σ H' _ ⟨_, e, _⟩
      exact .of e
    · rintro i x σ H2 hi ⟨s2, eR2, eD2, x3, rfl⟩
      have hil := (List.getElem?_eq_some_iff.mp hi).1
      rw [List.length_reverse, List.length_map] at hil
      rw [List.getElem?_reverse (by rw [List.length_map]; exact hil), List.getElem?_map, List.length_map] at hi
      obtain ⟨a, ha, rfl⟩ := Option.map_eq_some_iff.mp hi
      have st := earl_step hil ha
      refine ⟨_, rfl, _, rfl, _, _, rfl, rfl, _, rfl, .inl ⟨rfl, _, .of eD2⟩, _, rfl, D, _, _, rfl, rfl, eD2, ?_, ?_, ?_, ?_, some (V.int a), ?_⟩
      · rw [List.length_map, List.length_reverse, earl_length, List.length_drop]; exact small1000 (by omega)
      · intro b o e
        rw [upd_ne (ne_of_none e hD)]
        exact s2 b o e
      · rw [upd_ne RD]; exact eR2
      · rw [upd_same, st, List.reverse_cons, List.map_append]; rfl
      · rw [st]; rfl
    · rintro σ H2 ⟨s2, eR2, eD2, x3, rfl⟩
      rw [List.length_reverse, List.length_map, Nat.sub_self] at eD2
      refine ⟨_, rfl, D, _, rfl, .of eD2, fun q hq => k q _ ?_ (s2.trans (same_upd hq)) ?_⟩
      · cases hz : H q with
        | none => rfl
        | some o => rw [s2 _ _ hz] at hq; cases hq
      · rw [upd_same, List.map_reverse, List.reverse_reverse]; rfl
theorem fresh_of {H H' : Hp} {q : Addr} (s : Same H H') (h : H' q = none) : H q = none := by
  cases hz : H q with
  | none => rfl
  | some o => rw [s _ _ hz] at h; cases h
def sp_thru (K : PySem.W.Frag) : Sp := fun vs H Q _ => ∃ (b : Nat) (p : Addr) (r : List Int), vs = [.int (b : Int), .ref p] ∧ H p = some (.lst (r.map V.int)) ∧ r.length ≤ 900 ∧ b ≤ 900 ∧ Out K H Q (thru b r)
theorem ok_polynomial_through (T : Tx K w mg) : FnOk P w K mg base CX0 2 T.f_polynomial_through T.d_polynomial_through ["begin", "values"] (sp_thru K) := by
  refine T.F_polynomial_through.ok sc_polynomial_through (fun vs H Q E h => ?_) (fun cdv A outer s H vs Q E hr h => ?_)
  · obtain ⟨b, p, r, rfl, _⟩ := h
    rfl
  · obtain ⟨b, p, r, rfl, hS, hl, hb, k⟩ := h
    refine ⟨_,
    (pss_cons
      (ps_set (i := 2) sc_polynomial_through.nd rfl (.inl rfl) (pe_call (ok_differences_of T) hr (by rfl) T.g_differences_of T.F_differences_of.kp T.b_differences_of .nil pass0 (pa_cons (pv 1) pa_nil)))
    (pss_cons
      (ps_for PassesOwn.never rfl (pi_range1 (by rfl) T.m_range (pa_cons (pv 0) pa_nil)) (pg_name (i := 3) sc_polynomial_through.nd rfl (.inl rfl))
        (pss_one
          (ps_set (i := 2) sc_polynomial_through.nd rfl (.inl rfl) (pe_call (ok_one_earlier T) hr (by rfl) T.g_one_earlier T.F_one_earlier.kp T.b_one_earlier .nil pass0 (pa_cons (pv 2) pa_nil)))))
    (pss_one
      (ps_ret (pe_call (ok_without_zeros T) hr (by rfl) T.g_without_zeros T.F_without_zeros.kp T.b_without_zeros .nil pass0 (pa_cons (pv 2) pa_nil)))))), ?_⟩
    refine ⟨_, rfl, p, r, rfl, hS, hl, fun R H1 hR s1 eR => ?_⟩
    have hd : (difs r.length r).length = r.length := difs_length _ r rfl
    refine ⟨_, rfl, _, rfl, ?_, ?_, for_range (n := _) (fun i σ H' => ∃ (R : Addr) (x3 : Option V), H R = none ∧ Same H H' ∧ H' R = some (.lst ((earls i (difs r.length r)).map V.int)) ∧ σ = [some (.int (b : Int)), some (.ref p), some (.ref R), x3]) ?_ ?_ ?_⟩
    · omega
    · omega
    · exact ⟨R, none, hR, s1, eR, rfl⟩
    · rintro i σ H2 hi ⟨R, x3, hR, s2, eR, rfl⟩
      refine ⟨_, rfl, R, _, rfl, .of eR, by rw [earls_length, hd]; exact hl, fun R2 H3 hR2 s3 eR2 => ⟨R2, some (V.int (0 + (i : Int))), fresh_of s2 hR2, s2.trans s3, eR2, rfl⟩⟩
    · rintro σ H2 ⟨R, x3, hR, s2, eR, rfl⟩
      rw [Int.toNat_natCast] at eR
      refine ⟨_, rfl, R, _, rfl, .of eR, by rw [earls_length, hd]; exact hl, fun q hq => k q _ (fresh_of s2 hq) (s2.trans (same_upd hq)) ?_⟩
      rw [upd_same]; rfl
/-! ### errors -/
theorem ok_PlanError_init (T : Tx K w mg) : FnOk P w K mg base CX0 1 T.f_PlanError_init T.d_PlanError_init ["self", "value"] (sp_einit K) := by
  refine T.F_PlanError_init.ok sc_PlanError_init (fun vs H Q E h => ?_) (fun cdv A outer s H vs Q E hr h => ?_)
  · obtain ⟨a, C, y, rfl, _⟩ := h
    rfl
  · obtain ⟨a, C, y, rfl, ox, nv, ha, k⟩ := h
    refine ⟨_,
    (pss_one
      (ps_ost (pv 0) (pv 1))), ?_⟩
    exact ⟨_, rfl, _, rfl, a, C, rfl, ox, nv, .inl ⟨ha, k⟩⟩
/-! ### a Counted in the heap -/
theorem ckc : ¬ (("_poly" : Str) = "_firsts") := by decide +kernel
def cfl (p f : Addr) : List (Str × V) := putF "_firsts" (.ref f) (putF "_poly" (.ref p) [])
theorem cfl_p (p f : Addr) : (cfl p f).lookup ("_poly" : Str) = some (.ref p) := by
  unfold cfl
  rw [lookup_putF, if_neg ckc, lookup_putF, if_pos rfl]
theorem cfl_f (p f : Addr) : (cfl p f).lookup ("_firsts" : Str) = some (.ref f) := by
  unfold cfl
  rw [lookup_putF, if_pos rfl]
theorem cfl_1 (p : Addr) : (putF "_poly" (.ref p) [] : List (Str × V)).lookup ("_poly" : Str) = some (.ref p) := by
  rw [lookup_putF, if_pos rfl]
def RowOk (r : List Int) : Prop := ∃ B, Sz B r ∧ 1 ≤ B ∧ B ≤ 800000 ∧ r.length ≤ 200
theorem RowOk.v {r : List Int} {n : Int} (h : RowOk r) (hn : n.natAbs ≤ 2 ^ 119) : VOk r n := by
  obtain ⟨B, h1, h2, h3, h4⟩ := h
  have : (2 : Nat) ^ 119 + 200 ≤ 2 ^ 120 := by decide +kernel
  exact ⟨B, 120, h1, by omega, h2, by decide, by omega, by omega⟩
theorem RowOk.small {r : List Int} {n : Int} (h : RowOk r) (hn : n.natAbs ≤ 100000) : VOk r n := h.v (Nat.le_trans hn (by decide +kernel))
theorem RowOk.trim {r : List Int} (h : RowOk r) : RowOk (trim r) := by
  obtain ⟨B, h1, h2, h3, h4⟩ := h
  exact ⟨B, trim_size h1, h2, h3, Nat.le_trans (trim_length r) h4⟩
def lbg (h : List Int) (f : Int → Int) : Nat → Nat
  | 0 => 0
  | k + 1 => if h.getD k 0 = f (k : Int) then lbg h f k else k + 1
theorem lbg_le (h : List Int) (f : Int → Int) : ∀ k, lbg h f k ≤ k
  | 0 => Nat.le_refl _
  | k + 1 => by
    show (if h.getD k 0 = f (k : Int) then lbg h f k else k + 1) ≤ k + 1
    split
    · exact Nat.le_succ_of_le (lbg_le h f k)
    · exact Nat.le_refl _
def needL (h r : List Int) : List Int := h.take (lbg h (pol r) h.length)
def sp_least (K : PySem.W.Frag) : Sp := fun vs H Q _ => ∃ (f p : Addr) (h r : List Int), vs = [.ref f, .ref p] ∧ H f = some (.lst (h.map V.int)) ∧ H p = some (.lst (r.map V.int)) ∧ h.length ≤ 900 ∧ RowOk r ∧ ∀ H', Same H H' → Q (.int (lbg h (pol r) h.length : Nat)) H'
theorem ok_least_begin (T : Tx K w mg) : FnOk P w K mg base CX0 2 T.f_least_begin T.d_least_begin ["firsts", "poly"] (sp_least K) := by
  refine T.F_least_begin.ok sc_least_begin (fun vs H Q E h => ?_) (fun cdv A outer s H vs Q E hr h => ?_)
  · obtain ⟨f, p, h, r, rfl, _⟩ := h
    rfl
  · obtain ⟨f, p, h, r, rfl, hf, hp, hl, ok, k⟩ := h
    refine ⟨_,
    (pss_cons
      (ps_set (i := 2) sc_least_begin.nd rfl (.inl rfl) (pe_callB call_len_seq (by rfl) T.m_len (by decide +kernel) (pa_cons (pv 0) pa_nil)))
    (pss_cons
      (ps_while PassesOwn.never (PW.pt (pw_and (pt_cmpR op_gt (pv 2) pe_int (nomark _)) (pw_and1 (pt_cmpR op_eq (pe_ix ix_list (pv 0) (pe_op op_sub (pv 2) pe_int) (fun _ _ => rfl)) (pe_call (ok_value_at T) hr (by rfl) T.g_value_at T.F_value_at.kp T.b_value_at .nil pass0 (pa_cons (pv 1) (pa_cons (pe_op op_sub (pv 2) pe_int) pa_nil))) (nomark _)))))
        (pss_one
          (ps_aug (i := 2) sc_least_begin.nd rfl (.inl rfl) pe_int ip_sub)))
    (pss_one
      (ps_ret (pv 2))))), ?_⟩
    refine ⟨_, rfl, f, _, rfl, .inl (.of hf), ?_⟩
    rw [List.length_map]
    refine ⟨fun t σ H' => Same H H' ∧ t ≤ h.length ∧ lbg h (pol r) t = lbg h (pol r) h.length ∧ σ = [some (.ref f), some (.ref p), some (.int (t : Int))], ⟨h.length, Same.refl H, Nat.le_refl _, rfl, rfl⟩, ?_⟩
    rintro t σ H1 ⟨s1, ht, e, rfl⟩
    refine ⟨_, rfl, _, _, rfl, rfl, _, rfl, ite2 (fun c1 => ?_) (fun c1 => ?_)⟩
    · have t0 : (0 : Int) < (t : Int) := of_decide_eq_true c1
      obtain ⟨m, rfl⟩ : ∃ m, t = m + 1 := ⟨t - 1, by omega⟩
      have hm : m < h.length := by omega
      have ga : h[m]? = some (h.getD m 0) := by rw [List.getD_eq_getElem?_getD, List.getElem?_eq_getElem hm]; rfl
      have gv : (h.map V.int)[m]? = some (V.int (h.getD m 0)) := by rw [List.getElem?_map, ga]; rfl
      refine ⟨_, rfl, _, rfl, _, _, rfl, rfl, f, _, _, _, rfl, rfl, .of (s1 _ _ hf), at_of (j := m) (by omega) gv, _, rfl, _, rfl, _, _, rfl, rfl, p, r, (m : Int), (by show [V.ref p, V.int (((m + 1 : Nat) : Int) - 1)] = _; rw [show ((m + 1 : Nat) : Int) - 1 = (m : Int) by omega]), .of (s1 _ _ hp), ok.small (by omega), fun H2 s2 => ⟨rfl, _, rfl, ite2 (fun c2 => ?_) (fun c2 => ?_)⟩⟩
      · have z : h.getD m 0 = pol r (m : Int) := V.int.inj (of_decide_eq_true c2)
        refine ⟨fun σ' H' => Same H H' ∧ σ' = [some (.ref f), some (.ref p), some (.int (m : Int))], fun σ' H' ⟨h1, h2⟩ => ⟨m, Nat.lt_succ_self m, h1, by omega, by rw [← e]; exact (if_pos z).symm, h2⟩, ?_⟩
        refine ⟨_, rfl, _, _, rfl, rfl, s1.trans s2, ?_⟩
        show [some (V.ref f), some (V.ref p), some (V.int (((m + 1 : Nat) : Int) - 1))] = _
        rw [show ((m + 1 : Nat) : Int) - 1 = (m : Int) by omega]
      · have z : ¬ h.getD m 0 = pol r (m : Int) := fun z => c2 (decide_eq_true (congrArg V.int z))
        have e2 : m + 1 = lbg h (pol r) h.length := by rw [← e]; exact (if_neg z).symm
        refine ⟨_, rfl, ?_⟩
        rw [e2]
        exact k _ (s1.trans s2)
    · have t0 : t = 0 := by
        have : ¬ (0 : Int) < (t : Int) := fun z => c1 (decide_eq_true z)
        omega
      subst t0
      have e2 : lbg h (pol r) h.length = 0 := e.symm
      rw [e2] at k
      exact ⟨_, rfl, k _ s1⟩
def sp_cinit (K : PySem.W.Frag) (C : Addr) : Sp := fun vs H Q _ => ∃ (x dx f p : Addr) (h r : List Int), vs = [.ref x, .ref f, .ref p] ∧ H x = some (.ins C dx []) ∧ H f = some (.lst (h.map V.int)) ∧ H p = some (.lst (r.map V.int)) ∧ h.length ≤ 900 ∧ RowOk r ∧
  ∀ q F H', H q = none → H F = none → H' x = some (.ins C dx (cfl q F)) → H' q = some (.lst ((trim r).map V.int)) → H' F = some (.lst ((needL h (trim r)).map V.int)) → (∀ b o, H b = some o → b ≠ x → H' b = some o) → Q .non H'
theorem ok_Counted_init (T : Tx K w mg) : FnOk P w K mg base CX0 3 T.f_Counted_init T.d_Counted_init ["self", "firsts", "poly"] (sp_cinit K T.C_Counted) := by
  refine T.F_Counted_init.ok sc_Counted_init (fun vs H Q E h => ?_) (fun cdv A outer s H vs Q E hr h => ?_)
  · obtain ⟨x, dx, f, p, h, r, rfl, _⟩ := h
    rfl
  · obtain ⟨x, dx, f, p, h, r, rfl, hx, hf, hp, hl, ok, k⟩ := h
    refine ⟨_,
    (pss_cons
      (ps_fld (pv 0) (pe_call (ok_without_zeros T) (hr.mono (by decide)) (by rfl) T.g_without_zeros T.F_without_zeros.kp T.b_without_zeros .nil pass0 (pa_cons (pv 2) pa_nil)) rfl)
    (pss_one
      (ps_fld (pv 0) (pe_slice sl_list (pv 1) po_none (po_some (pe_call (ok_least_begin T) hr (by rfl) T.g_least_begin T.F_least_begin.kp T.b_least_begin .nil pass0 (pa_cons (pv 1) (pa_cons (pe_fld (pv 0) rfl) pa_nil))))) rfl))), ?_⟩
    have rl : r.length ≤ 900 := by
      obtain ⟨B, h1, h2, h3, h4⟩ := ok
      omega
    refine ⟨_, rfl, p, r, rfl, .of hp, rl, fun q hq => ?_⟩
    have xq : x ≠ q := ne_of_none hx hq
    have fx : f ≠ x := ne_of hf hx (by intro z; cases z)
    have px : p ≠ x := ne_of hp hx (by intro z; cases z)
    have fq : f ≠ q := ne_of_none hf hq
    have hx1 := same_upd (o := .lst ((trim r).map V.int)) hq _ _ hx
    refine ⟨_, rfl, x, T.C_Counted, dx, [], rfl, hx1, T.cl_Counted, T.n_Counted_poly, (by show 0 < 1000; decide), ?_⟩
    have ex : (upd (upd H q (.lst ((trim r).map V.int))) x (.ins T.C_Counted dx (putF "_poly" (.ref q) []))) x = some (.ins T.C_Counted dx (putF "_poly" (.ref q) [])) := upd_same
    have eq : (upd (upd H q (.lst ((trim r).map V.int))) x (.ins T.C_Counted dx (putF "_poly" (.ref q) []))) q = some (.lst ((trim r).map V.int)) := by rw [upd_ne xq.symm, upd_same]
    have ef : (upd (upd H q (.lst ((trim r).map V.int))) x (.ins T.C_Counted dx (putF "_poly" (.ref q) []))) f = some (.lst (h.map V.int)) := by rw [upd_ne fx, upd_ne fq]; exact hf
    have kp : ∀ b o, H b = some o → b ≠ x → (upd (upd H q (.lst ((trim r).map V.int))) x (.ins T.C_Counted dx (putF "_poly" (.ref q) []))) b = some o := fun b o e nb => by
      rw [upd_ne nb, upd_ne (ne_of_none e hq)]; exact e
    generalize upd (upd H q (.lst ((trim r).map V.int))) x (.ins T.C_Counted dx (putF "_poly" (.ref q) [])) = H1 at ex eq ef kp ⊢
    refine ⟨_, rfl, _, rfl, _, rfl, x, T.C_Counted, dx, _, _, rfl, ex, T.cl_Counted, T.n_Counted_poly, cfl_1 q, f, q, h, trim r, rfl, ef, eq, hl, ok.trim, fun H2 s2 => ⟨_, rfl, f, _, rfl, .of (s2 _ _ ef), fun F hF => ?_⟩⟩
    rw [map_take_int]
    have xF : x ≠ F := ne_of_none (s2 _ _ ex) hF
    have qF : q ≠ F := ne_of_none (s2 _ _ eq) hF
    have fF0 : H F = none := by
      cases hz : H F with
      | none => rfl
      | some o => rw [s2 _ _ (kp _ _ hz xF.symm)] at hF; cases hF
    refine ⟨_, rfl, x, T.C_Counted, dx, _, rfl, same_upd hF _ _ (s2 _ _ ex), T.cl_Counted, T.n_Counted_firsts, (by show 1 < 1000; decide), k q F _ hq fF0 upd_same ?_ ?_ fun b o e nb => ?_⟩
    · rw [upd_ne xq.symm]; exact same_upd hF _ _ (s2 _ _ eq)
    · rw [upd_ne xF.symm, upd_same]; rfl
    · rw [upd_ne nb]; exact same_upd hF _ _ (s2 _ _ (kp b o e nb))
theorem kb_Counted_init (T : Tx K w mg) : KBn K T.d_Counted_init ["self", "firsts", "poly"] 1 ["poly", "firsts"] (fun us ws => us ++ ws.reverse) (fun vs zs => vs ++ zs.reverse) := by
  obtain ⟨oc, od, kV, doc, pm, an, cdv, ct, osl, e, _, _⟩ := T.F_Counted_init.ex
  refine ⟨fun s us ws _ h1 h2 => ?_, fun r1 r2 => r1.append r2.reverse⟩
  rw [e]
  match us, ws, h1, h2 with
  | [_], [_, _], _, _ => exact BindsTo.of_eq rfl
def sp_cbegin (K : PySem.W.Frag) (C : Addr) : Sp := fun vs H Q _ => ∃ c dx p f xs, vs = [.ref c] ∧ H c = some (.ins C dx (cfl p f)) ∧ H f = some (.lst xs) ∧ Q (.int xs.length) H
theorem ok_Counted_begin (T : Tx K w mg) : FnOk P w K mg base CX0 1 T.f_Counted_begin T.d_Counted_begin ["self"] (sp_cbegin K T.C_Counted) := by
  refine T.F_Counted_begin.ok sc_Counted_begin (fun vs H Q E h => ?_) (fun cdv A outer s H vs Q E hr h => ?_)
  · obtain ⟨c, dx, p, f, xs, rfl, _⟩ := h
    rfl
  · obtain ⟨c, dx, p, f, xs, rfl, hc, hf, k⟩ := h
    refine ⟨_,
    (pss_one
      (ps_ret (pe_callB call_len_seq (by rfl) T.m_len (by decide +kernel) (pa_cons (pe_fld (pv 0) rfl) pa_nil)))), ?_⟩
    exact ⟨_, rfl, c, _, dx, _, _, rfl, hc, T.cl_Counted, T.n_Counted_firsts, cfl_f p f, f, _, rfl, .inl (.of hf), k⟩
def sp_cget (K : PySem.W.Frag) (C : Addr) (f : Str) : Sp := fun vs H Q _ => ∃ c dx p fa a xs, vs = [.ref c] ∧ H c = some (.ins C dx (cfl p fa)) ∧ (cfl p fa).lookup f = some (.ref a) ∧ H a = some (.lst xs) ∧ ∀ p, H p = none → Q (.ref p) (upd H p (.lst xs))
theorem ok_Counted_firsts (T : Tx K w mg) : FnOk P w K mg base CX0 1 T.f_Counted_firsts T.d_Counted_firsts ["self"] (sp_cget K T.C_Counted "_firsts") := by
  refine T.F_Counted_firsts.ok sc_Counted_firsts (fun vs H Q E h => ?_) (fun cdv A outer s H vs Q E hr h => ?_)
  · obtain ⟨c, dx, p, fa, a, xs, rfl, _⟩ := h
    rfl
  · obtain ⟨c, dx, p, fa, a, xs, rfl, hc, hl, ha, k⟩ := h
    refine ⟨_,
    (pss_one
      (ps_ret (pe_callTy call_list_of (by rfl) T.m_list (by decide +kernel) (pa_cons (pe_fld (pv 0) rfl) pa_nil)))), ?_⟩
    exact ⟨_, rfl, c, _, dx, _, _, rfl, hc, T.cl_Counted, T.n_Counted_firsts, hl, a, _, rfl, .inl (.of ha), k⟩
theorem ok_Counted_poly (T : Tx K w mg) : FnOk P w K mg base CX0 1 T.f_Counted_poly T.d_Counted_poly ["self"] (sp_cget K T.C_Counted "_poly") := by
  refine T.F_Counted_poly.ok sc_Counted_poly (fun vs H Q E h => ?_) (fun cdv A outer s H vs Q E hr h => ?_)
  · obtain ⟨c, dx, p, fa, a, xs, rfl, _⟩ := h
    rfl
  · obtain ⟨c, dx, p, fa, a, xs, rfl, hc, hl, ha, k⟩ := h
    refine ⟨_,
    (pss_one
      (ps_ret (pe_callTy call_list_of (by rfl) T.m_list (by decide +kernel) (pa_cons (pe_fld (pv 0) rfl) pa_nil)))), ?_⟩
    exact ⟨_, rfl, c, _, dx, _, _, rfl, hc, T.cl_Counted, T.n_Counted_poly, hl, a, _, rfl, .inl (.of ha), k⟩
/-- the number of a Counted at i -/
def numAt (F P : List Int) (i : Int) : Int := if i < F.length then F.getD i.toNat 0 else pol P i
def CnR (C : Addr) (H : Hp) (c : Addr) (F P : List Int) : Prop := ∃ dx p f, H c = some (.ins C dx (cfl p f)) ∧ H p = some (.lst (P.map V.int)) ∧ H f = some (.lst (F.map V.int))
def sp_cat (K : PySem.W.Frag) (C CE : Addr) : Sp := fun vs H Q E => ∃ (c : Addr) (i : Int) (F P : List Int), vs = [.ref c, .int i] ∧ CnR C H c F P ∧ RowOk P ∧ i.natAbs ≤ 2 ^ 119 ∧ ((0 ≤ i → ∀ H', Same H H' → Q (.int (numAt F P i)) H')) ∧
  (i < 0 → ∀ d H', H d = none → Same H H' → H' d = some (.xd [(("value" : Str), .int i)]) → E (.ref CE) (some d) H')
theorem ok_Counted_getitem (T : Tx K w mg) : FnOk P w K mg base (L2.CX P w) 4 T.f_Counted_getitem T.d_Counted_getitem ["self", "at"] (sp_cat K T.C_Counted T.C_InvalidNumber) := by
  refine T.F_Counted_getitem.okX sc_Counted_getitem (fun vs H Q E h => ?_) (fun cdv A outer s H vs Q E hr h => ?_)
  · obtain ⟨c, i, F, P, rfl, _⟩ := h
    rfl
  · obtain ⟨c, i, F, P, rfl, ⟨dx, p, f, hc, hp, hf⟩, ok, hi, k, ke⟩ := h
    refine ⟨_,
    (pss_cons
      (ps_if (pt_cmpR op_lt (pv 1) pe_int (nomark _))
        (pss_one
          (ps_raise rfl (takes_of rfl rfl rfl rfl) (pmk_oex T.ox_InvalidNumber T.ic_InvalidNumber T.ti (ok_PlanError_init T) (hr.mono (by decide)) T.b_PlanError_init .nil pass0 (by rfl) T.mg_InvalidNumber (pa_cons (pv 1) pa_nil))))
        pss_nil)
    (pss_cons
      (ps_if (pt_cmpR op_lt (pv 1) (pe_callB call_len_seq (by rfl) T.m_len (by decide +kernel) (pa_cons (pe_fld (pv 0) rfl) pa_nil)) (nomark _))
        (pss_one
          (ps_ret (pe_ix ix_list (pe_fld (pv 0) rfl) (pv 1) (fun _ _ => rfl))))
        pss_nil)
    (pss_one
      (ps_ret (pe_call (ok_value_at T) (hr.mono (by decide)) (by rfl) T.g_value_at T.F_value_at.kp T.b_value_at .nil pass0 (pa_cons (pe_fld (pv 0) rfl) (pa_cons (pv 1) pa_nil))))))), ?_⟩
    refine ⟨_, rfl, _, _, rfl, rfl, _, rfl, ite2 (fun c1 => ?_) (fun c1 => ?_)⟩
    · have i0 : i < 0 := of_decide_eq_true c1
      exact ⟨_, rfl, (by show 1 ≤ 1000; decide), raised (W := E) T.ox_InvalidNumber T.nv_InvalidNumber (ke i0)⟩
    · have i0 : 0 ≤ i := by
        have : ¬ i < 0 := fun z => c1 (decide_eq_true z)
        omega
      have k := k i0
      unfold numAt at k
      refine ⟨_, rfl, _, rfl, c, _, dx, _, _, rfl, hc, T.cl_Counted, T.n_Counted_firsts, cfl_f p f, f, _, rfl, .inl (.of hf), _, _, rfl, rfl, _, rfl, ?_⟩
      rw [List.length_map]
      obtain ⟨j, rfl⟩ := Int.eq_ofNat_of_zero_le i0
      refine ite2 (fun c2 => ?_) (fun c2 => ?_)
      · have h2 : (j : Int) < (F.length : Int) := of_decide_eq_true c2
        rw [if_pos h2, Int.toNat_natCast] at k
        have gj : (F.map V.int)[j]? = some (V.int (F.getD j 0)) := by
          rw [List.getElem?_map, List.getD_eq_getElem?_getD, List.getElem?_eq_getElem (by omega)]; rfl
        exact ⟨_, rfl, c, _, dx, _, _, rfl, hc, T.cl_Counted, T.n_Counted_firsts, cfl_f p f, _, rfl, f, _, _, _, rfl, rfl, .of hf, atI_nat gj, k H (Same.refl H)⟩
      · have h2 : ¬ (j : Int) < (F.length : Int) := fun z => c2 (decide_eq_true z)
        rw [if_neg h2] at k
        exact ⟨_, rfl, c, _, dx, _, _, rfl, hc, T.cl_Counted, T.n_Counted_poly, cfl_p p f, _, rfl, p, P, (j : Int), rfl, .of hp, ok.v hi, k⟩
/-! ### the law's deck -/
def Deck (H : Hp) (d g : Addr) : Prop := ∃ (gs : List Int) (a m : Int), H d = some (.lst [.ref g, .int a, .int m]) ∧ H g = some (.lst (gs.map V.int)) ∧ gs.length ≤ 63 ∧ (∀ x ∈ gs, 0 ≤ x) ∧ 0 ≤ a ∧ 0 ≤ m ∧ m < 2147483648
theorem Deck.ne {H : Hp} {d g : Addr} (h : Deck H d g) : d ≠ g := by
  obtain ⟨gs, a, m, h1, h2, _⟩ := h
  intro e
  subst e
  rw [h1] at h2
  cases gs with
  | nil => cases h2
  | cons x r => injection h2 with h2; injection h2 with h2; injection h2 with h2; cases h2
/-- all but the deck is as it was -/
def Kd (d g : Addr) (H H' : Hp) : Prop := ∀ b o, H b = some o → b ≠ d → b ≠ g → H' b = some o
theorem Kd.refl {d g : Addr} (H : Hp) : Kd d g H H := fun _ _ h _ _ => h
theorem Kd.trans {d g : Addr} {H H1 H2 : Hp} (a : Kd d g H H1) (b : Kd d g H1 H2) : Kd d g H H2 := fun x o h n1 n2 => b x o (a x o h n1 n2) n1 n2
theorem Same.kd {d g : Addr} {H H' : Hp} (s : Same H H') : Kd d g H H' := fun b o h _ _ => s b o h
def sp_deck (K : PySem.W.Frag) : Sp := fun vs H Q _ => ∃ (a : Addr) (ns : List Int), vs = [.ref a] ∧ SqL K H a (ns.map V.int) ∧ ns.length ≤ 63 ∧ ∀ d g H', Same H H' → Deck H' d g → Q (.ref d) H'
theorem ok_law_deck (T : Tx K w mg) : FnOk P w K mg base CX0 1 T.f_law_deck T.d_law_deck ["script"] (sp_deck K) := by
  refine T.F_law_deck.ok sc_law_deck (fun vs H Q E h => ?_) (fun cdv A outer s H vs Q E hr h => ?_)
  · obtain ⟨a, ns, rfl, _⟩ := h
    rfl
  · obtain ⟨a, ns, rfl, hS, hl, k⟩ := h
    refine ⟨_,
    (pss_cons
      (ps_set (i := 1) sc_law_deck.nd rfl (.inl rfl) (pe_op op_add pe_int (pe_op op_mod (pe_callB call_len_seq (by rfl) T.m_len (by decide +kernel) (pa_cons (pv 0) pa_nil)) pe_int)))
    (pss_cons
      (ps_for PassesOwn.never rfl (pi_list (pv 0)) (pg_name (i := 2) sc_law_deck.nd rfl (.inl rfl))
        (pss_one
          (ps_set (i := 1) sc_law_deck.nd rfl (.inl rfl) (pe_op op_mod (pe_op op_add (pe_op op_add (pe_op op_mul (pv 1) pe_int) (pe_op op_mod (pe_callTy call_int1 (by rfl) T.m_int (by decide +kernel) (pa_cons (pv 2) pa_nil)) pe_int)) pe_int) pe_int))))
    (pss_cons
      (ps_setLc (i := 3) (own := [("cell", 2)]) (g := gName 2) rfl sc_law_deck.nd rfl rfl (sw_true rfl rfl rfl (by decide +kernel)) (pi_list (pv 0)) (blkOk_by (N := ["script", "mixed", "cell", "great"]) (sc := defScope s_law_deck) (own := [("cell", 2)]) (by decide +kernel)) (fun _ _ _ _ _ => (pg_name (i := 2) sc_law_deck.nd rfl (.inl rfl))) (fun _ _ _ _ _ => (pts_one (pt_cmpR op_ge (pv 2) (pe_op op_pow pe_int pe_int) (nomark _)))) (fun _ _ _ _ _ => (pe_op op_sub (pe_callTy call_int1 (by rfl) T.m_int (by decide +kernel) (pa_cons (pv 2) pa_nil)) (pe_op op_pow pe_int pe_int))))
    (pss_one
      (ps_ret (pe_lst (pa_cons (pe_revL (pv 3)) (pa_cons pe_int (pa_cons (pe_op op_add (pe_op op_mod (pv 1) pe_int) pe_int) pa_nil))))))))), ?_⟩
    refine ⟨_, rfl, a, _, rfl, .inl hS, _, _, rfl, rfl, (by show (0 : Int) < 1009; decide), _, _, rfl, rfl, ?_⟩
    have m0 : 0 ≤ 1 + ((ns.map V.int).length : Int) % 1009 := by omega
    have m1 : 1 + ((ns.map V.int).length : Int) % 1009 < 2147483648 := by omega
    refine ⟨_, rfl, a, rfl, ⟨_, hS⟩, for_list (xs := ns.map V.int) (fun i σ H' => H' = H ∧ ∃ m x2, 0 ≤ m ∧ m < 2147483648 ∧ σ = [some (.ref a), some (.int m), x2, none]) ⟨rfl, _, none, m0, m1, rfl⟩ (fun i σ H' _ h => by rw [h.1]; exact hS) ?_ ?_⟩
    · rintro i v σ H1 hi ⟨rfl, m, x2, m0, m1, rfl⟩
      rw [List.getElem?_map] at hi
      obtain ⟨c, _, rfl⟩ := Option.map_eq_some_iff.mp hi
      refine ⟨_, rfl, _, _, rfl, rfl, .inl ⟨by omega, by omega⟩, _, rfl, .inl ⟨_, rfl, _, _, rfl, rfl, (by show (0 : Int) < 2147483563; decide), _, _, rfl, rfl, _, _, rfl, rfl, _, _, rfl, rfl, (by show (0 : Int) < 2147483399; decide), rfl, _, _, Int.emod_nonneg _ (by decide), Int.lt_trans (Int.emod_lt_of_pos _ (by decide)) (by decide), rfl⟩⟩
    · rintro σ H1 ⟨rfl, m, x2, m0, m1, rfl⟩
      refine ⟨_, rfl, a, rfl, ⟨_, hS⟩, fun D hD => ?_⟩
      refine lc_list (xs := ns.map V.int) (fun i H' => ∃ gs : List Int, gs.length ≤ i ∧ (∀ x ∈ gs, 0 ≤ x) ∧ H' D = some (.lst (gs.map V.int)) ∧ Same H1 H') ?_ ?_ ?_ ?_
      · exact ⟨[], Nat.le_refl _, (fun _ h => absurd h List.not_mem_nil), upd_same, same_upd hD⟩
      · rintro i H' _ ⟨gs, _, _, _, sm⟩
        exact sm.seq hS
      · rintro i v H' hi ⟨gs, gl, g0, eD, sm⟩
        have hil := (List.getElem?_eq_some_iff.mp hi).1
        rw [List.length_map] at hil
        rw [List.getElem?_map] at hi
        obtain ⟨c, _, rfl⟩ := Option.map_eq_some_iff.mp hi
        refine ⟨rfl, _, rfl, _, _, rfl, rfl, ⟨by decide, by decide, by decide⟩, _, _, rfl, rfl, _, rfl, ite2 (fun h => ?_) (fun _ => ⟨gs, by omega, g0, eD, sm⟩)⟩
        have h1 : (10 : Int) ^ (18 : Int).toNat ≤ c := of_decide_eq_true h
        refine ⟨_, rfl, .inl ⟨_, rfl, _, _, rfl, rfl, ⟨by decide, by decide, by decide⟩, _, _, rfl, rfl, gs.map V.int, eD, ?_, gs ++ [c - (10 : Int) ^ (18 : Int).toNat], ?_, ?_, ?_, fun b o e => ?_⟩⟩
        · rw [List.length_map]; exact small1000 (by omega)
        · rw [List.length_append]; exact Nat.succ_le_succ gl
        · intro x hx
          rcases List.mem_append.mp hx with h | h
          · exact g0 x h
          · have := List.mem_singleton.mp h
            omega
        · rw [upd_same, List.map_append]; rfl
        · rw [upd_ne (ne_of_none e hD)]; exact sm b o e
      · rintro H2 ⟨gs, gl, g0, eD, sm⟩
        rw [List.length_map] at gl
        refine ⟨_, rfl, D, _, rfl, .of eD, fun g hg => ⟨_, rfl, _, _, rfl, rfl, (by show (0 : Int) < 2147483398; decide), _, _, rfl, rfl, (by show 3 ≤ sizeLine; decide), fun d hd => ?_⟩⟩
        refine k d g _ ((sm.trans (same_upd hg)).trans (same_upd hd)) ⟨gs.reverse, 0, m % 2147483398 + 1, upd_same, ?_, by rw [List.length_reverse]; omega, fun x hx => g0 x (List.mem_reverse.mp hx), by decide, by omega, by omega⟩
        rw [upd_ne (ne_of_none upd_same hd), upd_same, List.map_reverse]
def sp_draw : Sp := fun vs H Q _ => ∃ (d g : Addr) (n : Int), vs = [.ref d, .int n] ∧ Deck H d g ∧ 0 < n ∧ n.natAbs.log2 < 9000 ∧ ∀ r H', 0 ≤ r → r < n → Deck H' d g → Kd d g H H' → Q (.int r) H'
theorem small_log {m : Int} (h : m.natAbs < 1024) : m.natAbs.log2 < 9000 := by
  have h1 : m.natAbs.log2 < 10 := PySem.Flt.log2_lt_of (by decide) h
  omega
theorem ok_law_draw (T : Tx K w mg) : FnOk P w K mg base CX0 1 T.f_law_draw T.d_law_draw ["deck", "many"] sp_draw := by
  refine T.F_law_draw.ok sc_law_draw (fun vs H Q E h => ?_) (fun cdv A outer s H vs Q E hr h => ?_)
  · obtain ⟨d, g, n, rfl, _⟩ := h
    rfl
  · obtain ⟨d, g, n, rfl, hD, hn, hl, k⟩ := h
    refine ⟨_,
    (pss_cons
      (ps_while PassesOwn.never (PW.pt (pw_and (pt_cmpR op_lt (pe_ix ix_list (pv 0) pe_int (fun _ _ => rfl)) pe_int (nomark _)) (pw_and1 (pt_cmpR op_gt (pe_callB call_len_seq (by rfl) T.m_len (by decide +kernel) (pa_cons (pe_ix ix_list (pv 0) pe_int (fun _ _ => rfl)) pa_nil)) pe_int (nomark _)))))
        (pss_one
          (ps_asg (pe_bm0 PySem.F.plainAttrs_list PySem.F.slot_list_pop PySem.F.type_list_pop mt_pop (pe_ix ix_list (pv 0) pe_int (fun _ _ => rfl))) (pg_sub (pv 0) pe_int set_list))))
    (pss_cons
      (ps_if (pt_cmpR op_gt (pe_ix ix_list (pv 0) pe_int (fun _ _ => rfl)) pe_int (nomark _))
        (pss_cons
          (ps_set (i := 2) sc_law_draw.nd rfl (.inl rfl) (pe_op op_mod (pe_callTy call_int1 (by rfl) T.m_int (by decide +kernel) (pa_cons (pe_ix ix_list (pv 0) pe_int (fun _ _ => rfl)) pa_nil)) (pv 1)))
        (pss_cons
          (ps_asg (pe_op op_fdivW (pe_ix ix_list (pv 0) pe_int (fun _ _ => rfl)) (pv 1)) (pg_sub (pv 0) pe_int set_list))
        (pss_one
          (ps_ret (pv 2)))))
        pss_nil)
    (pss_cons
      (ps_asg (pe_op op_mod (pe_op op_mul (pe_ix ix_list (pv 0) pe_int (fun _ _ => rfl)) pe_int) pe_int) (pg_sub (pv 0) pe_int set_list))
    (pss_one
      (ps_ret (pe_op op_mod (pe_op op_fdiv (pe_op op_add (pe_op op_mod (pe_op op_mul (pe_ix ix_list (pv 0) pe_int (fun _ _ => rfl)) (pe_ix ix_list (pv 0) pe_int (fun _ _ => rfl))) pe_int) (pe_op op_fdiv (pe_ix ix_list (pv 0) pe_int (fun _ _ => rfl)) pe_int)) pe_int) (pv 1))))))), ?_⟩
    have dg := hD.ne
    obtain ⟨gs, a, m, hd, hg, gl, g0, a0, m0, m1⟩ := hD
    refine ⟨fun t σ H' => ∃ (gs : List Int) (a : Int), gs.length = t ∧ σ = [some (.ref d), some (.int n), none] ∧ H' d = some (.lst [.ref g, .int a, .int m]) ∧ H' g = some (.lst (gs.map V.int)) ∧ gs.length ≤ 63 ∧ (∀ x ∈ gs, 0 ≤ x) ∧ 0 ≤ a ∧ Kd d g H H',
      ⟨_, gs, a, rfl, rfl, hd, hg, gl, g0, a0, Kd.refl H⟩, ?_⟩
    clear hd hg gl g0 a0 gs a
    rintro t σ H1 ⟨gs, a, tl, rfl, hd, hg, gl, g0, a0, kd⟩
    refine ⟨_, rfl, d, _, _, _, rfl, rfl, .of hd, atI_nat (j := 1) rfl, _, _, rfl, rfl, _, rfl, ite2 (fun c1 => ?_) (fun c1 => ?_)⟩
    · refine ⟨_, rfl, d, _, _, _, rfl, rfl, .of hd, atI_nat (j := 0) rfl, g, _, rfl, .inl (.of hg), _, _, rfl, rfl, _, rfl, ite2 (fun c2 => ?_) (fun c2 => ?_)⟩
      · have c3 : 0 < gs.length := by
          have : (0 : Int) < ((gs.map V.int).length : Int) := of_decide_eq_true c2
          rw [List.length_map] at this
          omega
        have hz : gs[gs.length - 1]? = some gs[gs.length - 1] := List.getElem?_eq_getElem (by omega)
        have hm := List.mem_of_getElem? hz
        generalize gs[gs.length - 1] = z at hz hm
        refine ⟨fun σ' H' => ∃ (gs : List Int) (a : Int), gs.length < t ∧ σ' = [some (.ref d), some (.int n), none] ∧ H' d = some (.lst [.ref g, .int a, .int m]) ∧ H' g = some (.lst (gs.map V.int)) ∧ gs.length ≤ 63 ∧ (∀ x ∈ gs, 0 ≤ x) ∧ 0 ≤ a ∧ Kd d g H H',
          fun σ' H' ⟨gs, a, h1, h2⟩ => ⟨_, h1, gs, a, rfl, h2⟩, ?_⟩
        refine ⟨_, rfl, d, _, _, _, rfl, rfl, .of hd, atI_nat (j := 0) rfl, .inl ⟨rfl, _, .of hg⟩, g, gs.map V.int, V.int z, rfl, rfl, hg, ?_, _, rfl, d, [.ref g, .int a, .int m], _, 1, rfl, rfl, ?_, rfl, gs.dropLast, z, ?_, rfl, ?_, ?_, ?_, ?_, g0 z hm, fun b o e n1 n2 => ?_⟩
        · rw [List.length_map, List.getElem?_map, hz]; rfl
        · rw [upd_ne dg]; exact hd
        · rw [List.length_dropLast]; omega
        · rw [upd_same]; rfl
        · rw [upd_ne dg.symm, upd_same, List.map_dropLast]
        · rw [List.length_dropLast]; omega
        · exact fun x hx => g0 x (List.dropLast_subset gs hx)
        · rw [upd_ne n1, upd_ne n2]; exact kd b o e n1 n2
      · refine ⟨_, rfl, d, _, _, _, rfl, rfl, .of hd, atI_nat (j := 1) rfl, _, _, rfl, rfl, _, rfl, iteND (by have : a < 2 := of_decide_eq_true c1; omega) ?_⟩
        have bm : -(2 ^ 64) < m ∧ m < 2 ^ 64 := ⟨by omega, by omega⟩
        have b0 : 0 ≤ m * 48271 % 2147483647 := Int.emod_nonneg _ (by decide)
        have b1 : m * 48271 % 2147483647 < 2147483647 := Int.emod_lt_of_pos _ (by decide)
        have bn : -(2 ^ 64) < m * 48271 % 2147483647 ∧ m * 48271 % 2147483647 < 2 ^ 64 := ⟨by omega, by omega⟩
        refine ⟨_, rfl, d, _, _, _, rfl, rfl, .of hd, atI_nat (j := 2) rfl, _, _, rfl, rfl, .inl bm, _, _, rfl, rfl, (by show (0 : Int) < 2147483647; decide), _, rfl, d, [.ref g, .int a, .int m], _, 2, rfl, rfl, hd, rfl, ?_⟩
        have e2 : (upd H1 d (.lst ([V.ref g, V.int a, V.int m].set 2 (V.int (m * 48271 % 2147483647))))) d = some (.lst [V.ref g, V.int a, V.int (m * 48271 % 2147483647)]) := upd_same
        refine ⟨_, rfl, d, _, _, _, rfl, rfl, .of e2, atI_nat (j := 2) rfl, _, rfl, d, _, _, _, rfl, rfl, .of e2, atI_nat (j := 2) rfl, _, _, rfl, rfl, .inl bn, _, _, rfl, rfl, (by show (0 : Int) < 2147483629; decide), _, rfl, d, _, _, _, rfl, rfl, .of e2, atI_nat (j := 2) rfl, _, _, rfl, rfl, ⟨by decide, by decide⟩, _, _, rfl, rfl, _, _, rfl, rfl, ⟨by decide, by decide⟩, _, rfl, _, _, rfl, rfl, hn, ?_⟩
        refine k _ _ (Int.emod_nonneg _ (by omega)) (Int.emod_lt_of_pos _ hn) ⟨gs, a, m * 48271 % 2147483647, e2, ?_, gl, g0, a0, b0, by omega⟩ fun b o e n1 n2 => ?_
        · rw [upd_ne dg.symm]; exact hg
        · rw [upd_ne n1]; exact kd b o e n1 n2
    · have c2 : ¬ a < 2 := fun z => c1 (decide_eq_true z)
      refine ⟨_, rfl, d, _, _, _, rfl, rfl, .of hd, atI_nat (j := 1) rfl, _, _, rfl, rfl, _, rfl, iteD (by omega) ?_⟩
      refine ⟨_, rfl, d, _, _, _, rfl, rfl, .of hd, atI_nat (j := 1) rfl, .inl ⟨_, rfl, _, rfl, _, _, rfl, rfl, hn, ?_⟩⟩
      refine ⟨_, rfl, d, _, _, _, rfl, rfl, .of hd, atI_nat (j := 1) rfl, _, rfl, _, _, rfl, rfl, ⟨hn, hl⟩, _, rfl, d, [.ref g, .int a, .int m], _, 1, rfl, rfl, hd, rfl, ?_⟩
      refine ⟨_, rfl, k _ _ (Int.emod_nonneg _ (by omega)) (Int.emod_lt_of_pos _ hn) ⟨gs, a / n, m, upd_same, ?_, gl, g0, Int.ediv_nonneg a0 (by omega), m0, m1⟩ fun b o e n1 n2 => ?_⟩
      · rw [upd_ne dg.symm]; exact hg
      · rw [upd_ne n1]; exact kd b o e n1 n2
theorem Deck.same {H H' : Hp} {d g : Addr} (s : Same H H') (h : Deck H d g) : Deck H' d g := by
  obtain ⟨gs, a, m, h1, h2, h3⟩ := h
  exact ⟨gs, a, m, s _ _ h1, s _ _ h2, h3⟩
theorem Deck.at {H : Hp} {d g : Addr} (h : Deck H d g) : (∃ o, H d = some o) ∧ ∃ o, H g = some o := by
  obtain ⟨gs, a, m, h1, h2, h3⟩ := h
  exact ⟨⟨_, h1⟩, _, h2⟩
theorem Deck.new {H : Hp} {d g p : Addr} (h : Deck H d g) (hp : H p = none) : p ≠ d ∧ p ≠ g := by
  obtain ⟨⟨o, h1⟩, u, h2⟩ := h.at
  exact ⟨(ne_of_none h1 hp).symm, (ne_of_none h2 hp).symm⟩
theorem Kd.free {d g p : Addr} {H H' : Hp} (k : Kd d g H H') (h : H' p = none) (n1 : p ≠ d) (n2 : p ≠ g) : H p = none := by
  cases q : H p with
  | none => rfl
  | some o =>
    rw [k p o q n1 n2] at h
    cases h
/-! ### rules, data, orders -/
/-- tuples stand -/
def Tk (H H' : Hp) : Prop := ∀ b xs, H b = some (.tup xs) → H' b = some (.tup xs)
theorem Same.tk {H H' : Hp} (s : Same H H') : Tk H H' := fun b _ h => s b _ h
theorem Kd.tk {d g : Addr} {H H' : Hp} (k : Kd d g H H') (hD : Deck H d g) : Tk H H' := fun b xs h => by
  obtain ⟨gs, a, m, h1, h2, _⟩ := hD
  exact k b _ h (ne_of h h1 (by intro z; cases z)) (ne_of h h2 (by intro z; cases z))
theorem Tk.trans {H H1 H2 : Hp} (a : Tk H H1) (b : Tk H1 H2) : Tk H H2 := fun x xs h => b x xs (a x xs h)
theorem tk_mut {H : Hp} {p : Addr} {xs : List V} {o : HO} (h : H p = some (.lst xs)) : Tk H (upd H p o) := fun b ys e => by
  rw [upd_ne (ne_of e h (by intro z; cases z))]
  exact e
structure Std (H0 H' : Hp) (d g : Addr) : Prop where
  dk : Deck H' d g
  kd : Kd d g H0 H'
theorem Std.refl {H : Hp} {d g : Addr} (h : Deck H d g) : Std H H d g := ⟨h, Kd.refl H⟩
theorem Std.draw {H0 H1 H2 : Hp} {d g : Addr} (s : Std H0 H1 d g) (h : Deck H2 d g) (k : Kd d g H1 H2) : Std H0 H2 d g := ⟨h, s.kd.trans k⟩
theorem Std.trans {H0 H1 H2 : Hp} {d g : Addr} (s : Std H0 H1 d g) (t : Std H1 H2 d g) : Std H0 H2 d g := ⟨t.dk, s.kd.trans t.kd⟩
theorem Std.new {H0 H1 : Hp} {d g p : Addr} {o : HO} (s : Std H0 H1 d g) (hp : H1 p = none) : Std H0 (upd H1 p o) d g := ⟨s.dk.same (same_upd hp), s.kd.trans (Same.kd (same_upd hp))⟩
theorem Std.free {H0 H1 : Hp} {d g p : Addr} (s : Std H0 H1 d g) (hp : H1 p = none) : H0 p = none := s.kd.free hp (s.dk.new hp).1 (s.dk.new hp).2
theorem Std.mut {H0 H1 : Hp} {d g p : Addr} {o : HO} (s : Std H0 H1 d g) (hp : H0 p = none) (n1 : p ≠ d) (n2 : p ≠ g) : Std H0 (upd H1 p o) d g := by
  refine ⟨?_, fun b u e h1 h2 => ?_⟩
  · obtain ⟨gs, a, m, h1, h2, h3⟩ := s.dk
    exact ⟨gs, a, m, by rw [upd_ne n1.symm]; exact h1, by rw [upd_ne n2.symm]; exact h2, h3⟩
  · rw [upd_ne (ne_of_none e hp)]
    exact s.kd b u e h1 h2
/-- a list apart from the deck -/
structure Lat (H : Hp) (d g p : Addr) (xs : List V) : Prop where
  at_ : H p = some (.lst xs)
  nd : p ≠ d
  ng : p ≠ g
theorem Lat.keep {H H' : Hp} {d g p : Addr} {xs : List V} (h : Lat H d g p xs) (k : Kd d g H H') : Lat H' d g p xs := ⟨k _ _ h.at_ h.nd h.ng, h.nd, h.ng⟩
theorem Lat.new {H : Hp} {d g p : Addr} {xs : List V} (h : Deck H d g) (hp : H p = none) : Lat (upd H p (.lst xs)) d g p xs := ⟨upd_same, (h.new hp).1, (h.new hp).2⟩
def sp_great : Sp := fun vs H Q _ => ∃ (d g : Addr) (n : Int), vs = [.ref d, .int n] ∧ Deck H d g ∧ 0 < n ∧ ∀ r H', 0 ≤ r → r < n → Deck H' d g → Kd d g H H' → Q (.int r) H'
theorem ok_law_great (T : Tx K w mg) : FnOk P w K mg base CX0 2 T.f_law_great T.d_law_great ["deck", "many"] sp_great := by
  refine T.F_law_great.ok sc_law_great (fun vs H Q E h => ?_) (fun cdv A outer s H vs Q E hr h => ?_)
  · obtain ⟨d, g, n, rfl, _⟩ := h
    rfl
  · obtain ⟨d, g, n, rfl, hD, hn, k⟩ := h
    refine ⟨_,
    (pss_cons
      (ps_set (i := 2) sc_law_great.nd rfl (.inl rfl) pe_int)
    (pss_cons
      (ps_for PassesOwn.never rfl (pi_range1 (by rfl) T.m_range (pa_cons pe_int pa_nil)) (pg_name (i := 3) sc_law_great.nd rfl (.inl rfl))
        (pss_one
          (ps_set (i := 2) sc_law_great.nd rfl (.inl rfl) (pe_op op_add (pe_op op_mul (pv 2) pe_int) (pe_call (ok_law_draw T) hr (by rfl) T.g_law_draw T.F_law_draw.kp T.b_law_draw .nil pass0 (pa_cons (pv 0) (pa_cons pe_int pa_nil)))))))
    (pss_one
      (ps_ret (pe_op op_mod (pv 2) (pv 1)))))), ?_⟩
    refine ⟨7, rfl, by decide, by decide, for_range (n := 7) (fun i σ H' => ∃ (x : Int) (y : Option V), σ = [some (.ref d), some (.int n), some (.int x), y] ∧ Deck H' d g ∧ Kd d g H H') ⟨0, none, rfl, hD, Kd.refl H⟩ ?_ ?_⟩
    · rintro i σ H1 _ ⟨x, y, rfl, hD1, k1⟩
      exact ⟨_, rfl, _, _, rfl, rfl, .inr ⟨by decide, by decide⟩, _, rfl, d, g, 2147483647, rfl, hD1, by decide, by decide +kernel, fun r H2 r0 r1 hD2 k2 => ⟨_, _, rfl, rfl, _, _, rfl, hD2, k1.trans k2⟩⟩
    · rintro σ H1 ⟨x, y, rfl, hD1, k1⟩
      exact ⟨_, rfl, _, rfl, _, _, rfl, rfl, hn, k _ _ (Int.emod_nonneg _ (by omega)) (Int.emod_lt_of_pos _ hn) hD1 k1⟩
theorem ok_law_value (T : Tx K w mg) : FnOk P w K mg base CX0 1 T.f_law_value T.d_law_value ["row", "at"] (sp_value K) := by
  refine T.F_law_value.ok sc_law_value (fun vs H Q E h => ?_) (fun cdv A outer s H vs Q E hr h => ?_)
  · obtain ⟨p, row, n, rfl, _⟩ := h
    rfl
  · obtain ⟨p, row, n, rfl, hS, hv, k⟩ := h
    refine ⟨_,
    (pss_cons
      (ps_set (i := 2) sc_law_value.nd rfl (.inl rfl) pe_int)
    (pss_cons
      (ps_set (i := 3) sc_law_value.nd rfl (.inl rfl) pe_int)
    (pss_cons
      (ps_for PassesOwn.never rfl (pi_enum (by rfl) T.m_enumerate (pa_cons (pv 0) pa_nil)) (pg_tup (by rfl) (pgs_cons (pg_name (i := 4) sc_law_value.nd rfl (.inl rfl)) (pgs_cons (pg_name (i := 5) sc_law_value.nd rfl (.inl rfl)) pgs_nil)))
        (pss_cons
          (ps_set (i := 2) sc_law_value.nd rfl (.inl rfl) (pe_op op_add (pv 2) (pe_op op_mulW (pv 5) (pv 3))))
        (pss_one
          (ps_set (i := 3) sc_law_value.nd rfl (.inl rfl) (pe_op op_fdivW (pe_op op_mulW (pv 3) (pe_op op_sub (pv 1) (pv 4))) (pe_op op_add (pv 4) pe_int))))))
    (pss_one
      (ps_ret (pv 2)))))), ?_⟩
    refine ⟨_, rfl, p, _, rfl, hS, for_enum (xs := row.map V.int) (fun i σ H' => Same H H' ∧ ∃ x4 x5, σ = [some (.ref p), some (.int n), some (.int (pol (row.take i) n)), some (.int (W n i)), x4, x5]) ?_ ?_ ?_ ?_⟩
    · exact ⟨Same.refl H, none, none, rfl⟩
    · rintro i σ H' _ ⟨sm, _⟩
      exact sm.seq hS
    · rintro i x σ H1 U hi ⟨sm, x4, x5, rfl⟩ hU
      rw [List.getElem?_map] at hi
      obtain ⟨a, ha, rfl⟩ := Option.map_eq_some_iff.mp hi
      obtain ⟨c1, c2, c3⟩ := hv.ops ha
      rw [Int.zero_add] at c2 c3
      refine ⟨U, _, rfl, .of upd_same, rfl, _, _, rfl, _, _, rfl, rfl, _, rfl, _, rfl, _, rfl, _, _, rfl, rfl, c1, _, _, rfl, rfl, ?_⟩
      refine ⟨_, rfl, _, rfl, _, rfl, _, _, rfl, rfl, _, _, rfl, rfl, c2, _, rfl, _, _, rfl, rfl, _, _, rfl, rfl, c3, ?_⟩
      refine ⟨sm.trans (same_upd hU), some (V.int (i : Nat)), some (V.int a), ?_⟩
      rw [pol_take ha, ← W_div]
      rfl
    · rintro σ H1 ⟨sm, x4, x5, rfl⟩
      rw [List.length_map, List.take_of_length_le (Nat.le_refl _)]
      exact ⟨_, rfl, k H1 sm⟩
/-! ### the law's lists -/
theorem pickI {ms : List Int} {w : Int} (h0 : 0 ≤ w) (h1 : w < ms.length) : ∃ m, m ∈ ms ∧ (ms.map V.int)[w.toNat]? = some (V.int m) := by
  have h : w.toNat < ms.length := by omega
  exact ⟨ms[w.toNat], List.getElem_mem h, by rw [List.getElem?_map, List.getElem?_eq_getElem h]; rfl⟩
theorem wm {i j : Int} (h1 : i.natAbs < 2 ^ 1000) (h2 : j.natAbs < 2 ^ 1000) : CMulW i j := wide_mul h1 h2 (by decide) (by decide) (by decide)
def sp_llist : Sp := fun vs H Q _ => ∃ (d g : Addr) (m : Int), vs = [.ref d, .int m] ∧ Deck H d g ∧ 0 ≤ m ∧ m ≤ 100 ∧
  ∀ (p : Addr) (r : List Int) (H' : Hp), Std H H' d g → H p = none → Lat H' d g p (r.map V.int) → Sz 700 r → (r.length : Int) ≤ m → Q (.ref p) H'
theorem ok_law_list (T : Tx K w mg) : FnOk P w K mg base CX0 3 T.f_law_list T.d_law_list ["deck", "most"] sp_llist := by
  refine T.F_law_list.ok sc_law_list (fun vs H Q E h => ?_) (fun cdv A outer s H vs Q E hr h => ?_)
  · obtain ⟨d, g, m, rfl, _⟩ := h
    rfl
  · obtain ⟨d, g, m, rfl, hD, m0, m1, k⟩ := h
    refine ⟨_,
    (pss_cons
      (ps_set (i := 2) sc_law_list.nd rfl (.inl rfl) (pe_ix ix_list (pe_lst (pa_cons pe_int (pa_cons pe_int (pa_cons pe_int (pa_cons (pe_op op_pow pe_int pe_int) pa_nil))))) (pe_call (ok_law_draw T) (hr.mono (by decide)) (by rfl) T.g_law_draw T.F_law_draw.kp T.b_law_draw .nil pass0 (pa_cons (pv 0) (pa_cons pe_int pa_nil))) (fun _ _ => rfl)))
    (pss_cons
      (ps_set (i := 3) sc_law_list.nd rfl (.inl rfl) (pe_ix ix_list (pe_lst (pa_cons pe_int (pa_cons (pe_op op_mulW (pe_op op_pow pe_int pe_int) (pe_op op_pow pe_int pe_int)) pa_nil))) (pe_callTy call_int1 (by rfl) T.m_int (by decide +kernel) (pa_cons (pe_cmpR op_eq (pe_call (ok_law_draw T) (hr.mono (by decide)) (by rfl) T.g_law_draw T.F_law_draw.kp T.b_law_draw .nil pass0 (pa_cons (pv 0) (pa_cons pe_int pa_nil))) pe_int (nomark _)) pa_nil)) (fun _ _ => rfl)))
    (pss_cons
      (ps_set (i := 4) sc_law_list.nd rfl (.inl rfl) (pe_lst pa_nil))
    (pss_cons
      (ps_for PassesOwn.never rfl (pi_range1 (by rfl) T.m_range (pa_cons (pe_call (ok_law_draw T) (hr.mono (by decide)) (by rfl) T.g_law_draw T.F_law_draw.kp T.b_law_draw .nil pass0 (pa_cons (pv 0) (pa_cons (pe_op op_add (pv 1) pe_int) pa_nil))) pa_nil)) (pg_name (i := 5) sc_law_list.nd rfl (.inl rfl))
        (pss_one
          (ps_expr (pe_bm PySem.F.plainAttrs_list PySem.F.slot_list_append PySem.F.type_list_append mt_append (pv 4) (pa_cons (pe_op op_mulW (pe_call (ok_law_great T) hr (by rfl) T.g_law_great T.F_law_great.kp T.b_law_great .nil pass0 (pa_cons (pv 0) (pa_cons (pv 2) pa_nil))) (pe_ix ix_list (pe_lst (pa_cons pe_int (pa_cons pe_int (pa_cons (pe_un un_neg pe_int) (pa_cons (pv 3) pa_nil))))) (pe_call (ok_law_draw T) (hr.mono (by decide)) (by rfl) T.g_law_draw T.F_law_draw.kp T.b_law_draw .nil pass0 (pa_cons (pv 0) (pa_cons pe_int pa_nil))) (fun _ _ => rfl))) pa_nil)))))
    (pss_one
      (ps_ret (pv 4))))))), ?_⟩
    have ht : ∀ t ∈ [2, 5, 1000, (10 : Int) ^ (60 : Int).toNat], 0 < t ∧ t.natAbs < 2 ^ 200 := by decide +kernel
    refine ⟨_, _, rfl, rfl, ⟨by decide, by decide, by decide⟩, (by show 4 ≤ sizeLine; decide), fun L hL => ?_⟩
    have s1 := (Std.refl hD).new (o := .lst ([2, 5, 1000, (10 : Int) ^ (60 : Int).toNat].map V.int)) hL
    have dL := hD.new hL
    refine ⟨_, rfl, d, g, 4, rfl, s1.dk, by decide, by decide +kernel, fun w0 H2 w00 w01 hD2 k2 => ?_⟩
    obtain ⟨t, hm, gm⟩ := pickI (ms := [2, 5, 1000, (10 : Int) ^ (60 : Int).toNat]) w00 w01
    obtain ⟨t0, t1⟩ := ht t hm
    have s2 := s1.draw hD2 k2
    refine ⟨L, _, _, V.int t, rfl, rfl, .of (k2 _ _ upd_same dL.1 dL.2), at_of (j := w0.toNat) (by omega) gm, ?_⟩
    clear hm gm ht dL hL s1 k2 w00 w01
    -- times
    refine ⟨_, _, rfl, rfl, ⟨by decide, by decide, by decide⟩, _, _, rfl, rfl, ⟨by decide, by decide, by decide⟩, _, _, rfl, rfl, wm (by decide +kernel) (by decide +kernel), (by show 2 ≤ sizeLine; decide), fun L hL => ?_⟩
    have s3 := s2.new (o := .lst [.int 1, .int ((10 : Int) ^ (60 : Int).toNat * (10 : Int) ^ (60 : Int).toNat)]) hL
    have dL := hD2.new hL
    refine ⟨_, rfl, d, g, 8, rfl, s3.dk, by decide, by decide +kernel, fun w1 H3 _ _ hD3 k3 => ⟨rfl, .inr ⟨_, rfl, ?_⟩⟩⟩
    have s4 := s3.draw hD3 k3
    obtain ⟨u, u1, gu⟩ : ∃ u : Int, u.natAbs < 2 ^ 400 ∧ atI [V.int 1, V.int ((10 : Int) ^ (60 : Int).toNat * (10 : Int) ^ (60 : Int).toNat)] (if decide (V.int w1 = V.int 0) = true then (1 : Int) else 0) = some (V.int u) := by
      cases decide (V.int w1 = V.int 0) with
      | true => exact ⟨(10 : Int) ^ (60 : Int).toNat * (10 : Int) ^ (60 : Int).toNat, by decide +kernel, rfl⟩
      | false => exact ⟨1, by decide +kernel, rfl⟩
    refine ⟨L, _, _, V.int u, rfl, rfl, .of (k3 _ _ upd_same dL.1 dL.2), gu, ?_⟩
    clear gu dL hL s3 s2 k3
    -- found
    refine ⟨Nat.zero_le _, fun D hDn => ?_⟩
    have fD := s4.free hDn
    have s5 := s4.new (o := .lst []) hDn
    have dD := hD3.new hDn
    refine ⟨_, rfl, _, rfl, _, _, rfl, rfl, d, g, m + 1, rfl, s5.dk, by omega, small_log (by omega), fun n H4 n0 n1 hD4 k4 => ⟨_, rfl, by omega, by omega, for_range (n := _) (fun i σ H' => ∃ (r : List Int) (x5 : Option V), Std H H' d g ∧ H' D = some (.lst (r.map V.int)) ∧ Sz 700 r ∧ r.length = i ∧ σ = [some (.ref d), some (.int m), some (.int t), some (.int u), some (.ref D), x5]) ?_ ?_ ?_⟩⟩
    · exact ⟨[], none, s5.draw hD4 k4, k4 _ _ upd_same dD.1 dD.2, (fun _ h => absurd h List.not_mem_nil), rfl, rfl⟩
    · rintro i σ H5 hi ⟨r, x5, s6, eD, sz, rl, rfl⟩
      refine ⟨_, rfl, .inl ⟨rfl, _, .of eD⟩, _, rfl, _, rfl, d, g, t, rfl, s6.dk, t0, fun v H6 v0 v1 hD6 k6 => ?_⟩
      have s7 := s6.draw hD6 k6
      have eD6 := k6 _ _ eD dD.1 dD.2
      refine ⟨_, rfl, _, rfl, (by show 4 ≤ sizeLine; decide), fun L hL => ?_⟩
      have s8 := s7.new (o := .lst ([0, 1, -1, u].map V.int)) hL
      have dL := hD6.new hL
      have eD7 := same_upd (o := .lst ([0, 1, -1, u].map V.int)) hL _ _ eD6
      refine ⟨_, rfl, d, g, 4, rfl, s8.dk, by decide, by decide +kernel, fun w2 H7 w20 w21 hD7 k7 => ?_⟩
      obtain ⟨x, hx, gx⟩ := pickI (ms := [0, 1, -1, u]) w20 w21
      have hx2 : x.natAbs < 2 ^ 400 := by
        have h1 : (1 : Nat) < 2 ^ 400 := by decide +kernel
        simp only [List.mem_cons, List.not_mem_nil, or_false] at hx
        rcases hx with rfl | rfl | rfl | rfl <;> omega
      have hv : v.natAbs < 2 ^ 200 := by omega
      have eD8 := k7 _ _ eD7 dD.1 dD.2
      refine ⟨L, _, _, V.int x, rfl, rfl, .of (k7 _ _ upd_same dL.1 dL.2), at_of (j := w2.toNat) (by omega) gx, _, _, rfl, rfl, wide_mul hv hx2 (by decide) (by decide) (by decide), D, _, _, rfl, rfl, eD8, ?_, r ++ [v * x], _, (s8.draw hD7 k7).mut fD dD.1 dD.2, ?_, ?_, ?_, rfl⟩
      · rw [List.length_map, rl]; exact small1000 (by omega)
      · rw [upd_same, List.map_append]; rfl
      · intro y hy
        rcases List.mem_append.mp hy with h | h
        · exact sz y h
        · rw [List.mem_singleton.mp h]
          have := wide_lt hv hx2
          exact Nat.lt_of_lt_of_le this (Nat.pow_le_pow_right (by decide) (by decide))
      · rw [List.length_append, rl]; rfl
    · rintro σ H5 ⟨r, x5, s6, eD, sz, rl, rfl⟩
      exact ⟨_, rfl, k D r H5 s6 fD ⟨eD, dD.1, dD.2⟩ sz (by omega)⟩
theorem rep0 (n : Nat) : (List.replicate n [V.int 0]).flatten = (List.replicate n (0 : Int)).map V.int := by
  induction n with
  | zero => rfl
  | succ n ih => rw [List.replicate_succ, List.flatten_cons, ih]; rfl
theorem Sz.rowOk {B : Nat} {r : List Int} (h : Sz B r) (h1 : 1 ≤ B) (h2 : B ≤ 800000) (h3 : r.length ≤ 200) : RowOk r := ⟨B, h, h1, h2, h3⟩
theorem Std.same {H0 H1 H2 : Hp} {d g : Addr} (s : Std H0 H1 d g) (t : Same H1 H2) : Std H0 H2 d g := ⟨s.dk.same t, s.kd.trans (Same.kd t)⟩
def sp_lists : Sp := fun vs H Q _ => ∃ (d g : Addr) (m : Int), vs = [.ref d, .int m] ∧ Deck H d g ∧ 2 ≤ m ∧ m ≤ 60 ∧
  ∀ (u p q : Addr) (hs r : List Int) (H' : Hp), Std H H' d g → H p = none → H q = none → H' u = some (.tup [.ref p, .ref q]) → Lat H' d g p (hs.map V.int) → Lat H' d g q (r.map V.int) → Sz 2000 hs → Sz 700 r → hs.length ≤ 60 → r.length ≤ 60 → Q (.ref u) H'
theorem ok_law_lists (T : Tx K w mg) : FnOk P w K mg base CX0 4 T.f_law_lists T.d_law_lists ["deck", "most"] sp_lists := by
  refine T.F_law_lists.ok sc_law_lists (fun vs H Q E h => ?_) (fun cdv A outer s H vs Q E hr h => ?_)
  · obtain ⟨d, g, m, rfl, _⟩ := h
    rfl
  · obtain ⟨d, g, m, rfl, hD, m0, m1, k⟩ := h
    refine ⟨_,
    (pss_cons
      (ps_set (i := 2) sc_law_lists.nd rfl (.inl rfl) (pe_call (ok_law_list T) hr (by rfl) T.g_law_list T.F_law_list.kp T.b_law_list .nil pass0 (pa_cons (pv 0) (pa_cons (pe_ix ix_list (pe_lst (pa_cons pe_int (pa_cons (pv 1) pa_nil))) (pe_call (ok_law_draw T) (hr.mono (by decide)) (by rfl) T.g_law_draw T.F_law_draw.kp T.b_law_draw .nil pass0 (pa_cons (pv 0) (pa_cons pe_int pa_nil))) (fun _ _ => rfl)) pa_nil))))
    (pss_cons
      (ps_set (i := 3) sc_law_lists.nd rfl (.inr rfl) (pe_call (ok_law_list T) hr (by rfl) T.g_law_list T.F_law_list.kp T.b_law_list .nil pass0 (pa_cons (pv 0) (pa_cons (pe_ix ix_list (pe_lst (pa_cons pe_int (pa_cons (pv 1) pa_nil))) (pe_callTy call_int1 (by rfl) T.m_int (by decide +kernel) (pa_cons (pe_cmpR op_eq (pe_call (ok_law_draw T) (hr.mono (by decide)) (by rfl) T.g_law_draw T.F_law_draw.kp T.b_law_draw .nil pass0 (pa_cons (pv 0) (pa_cons pe_int pa_nil))) pe_int (nomark _)) pa_nil)) (fun _ _ => rfl)) pa_nil))))
    (C8.pss_cut
      (ps_if (pt_cmpR op_eq (pe_call (ok_law_draw T) (hr.mono (by decide)) (by rfl) T.g_law_draw T.F_law_draw.kp T.b_law_draw .nil pass0 (pa_cons (pv 0) (pa_cons pe_int pa_nil))) pe_int (nomark _))
        (pss_cons
          (ps_set (i := 4) sc_law_lists.nd rfl (.inl rfl) (pe_call (ok_law_draw T) (hr.mono (by decide)) (by rfl) T.g_law_draw T.F_law_draw.kp T.b_law_draw .nil pass0 (pa_cons (pv 0) (pa_cons (pe_op op_add (pe_callB call_len_seq (by rfl) T.m_len (by decide +kernel) (pa_cons (pv 2) pa_nil)) pe_int) pa_nil))))
        (pss_one
          (ps_set (i := 2) sc_law_lists.nd rfl (.inl rfl) (pe_op op_cat (pe_slice sl_list (pv 2) po_none (po_some (pv 4))) (pe_lc (own := [("at", 5)]) (g := gName 5) rfl sc_law_lists.nd (pi_range2 (by rfl) T.m_range (pa_cons (pv 4) (pa_cons (pe_callB call_len_seq (by rfl) T.m_len (by decide +kernel) (pa_cons (pv 2) pa_nil)) pa_nil))) (blkOk_by (N := ["deck", "most", "heads", "row", "low", "at"]) (sc := defScope s_law_lists) (own := [("at", 5)]) (by decide +kernel)) (fun _ _ _ _ _ => (pg_name (i := 5) sc_law_lists.nd rfl (.inl rfl))) (fun _ _ _ _ _ => pts_nil) (fun _ _ _ _ _ => (pe_call (ok_law_value T) (hr.mono (by decide)) (by rfl) T.g_law_value T.F_law_value.kp T.b_law_value .nil pass0 (pa_cons (pv 3) (pa_cons (pv 5) pa_nil)))))))))
        pss_nil)
    (C8.pss_cut
      (ps_if (PW.pt (pw_and (pt_cmpR op_lt (pe_callB call_len_seq (by rfl) T.m_len (by decide +kernel) (pa_cons (pv 3) pa_nil)) (pv 1) (nomark _)) (pw_and1 (pt_cmpR op_eq (pe_call (ok_law_draw T) (hr.mono (by decide)) (by rfl) T.g_law_draw T.F_law_draw.kp T.b_law_draw .nil pass0 (pa_cons (pv 0) (pa_cons pe_int pa_nil))) pe_int (nomark _)))))
        (pss_one
          (ps_set (i := 3) sc_law_lists.nd rfl (.inr rfl) (pe_op op_cat (pv 3) (pe_op op_rep (pe_lst (pa_cons pe_int pa_nil)) (pe_op op_add pe_int (pe_call (ok_law_draw T) (hr.mono (by decide)) (by rfl) T.g_law_draw T.F_law_draw.kp T.b_law_draw .nil pass0 (pa_cons (pv 0) (pa_cons (pe_op op_sub (pv 1) (pe_callB call_len_seq (by rfl) T.m_len (by decide +kernel) (pa_cons (pv 3) pa_nil))) pa_nil))))))))
        pss_nil)
    (pss_one
      (ps_ret (pe_tup (pa_cons (pv 2) (pa_cons (pv 3) pa_nil))))))))), ?_⟩
    refine ⟨_, rfl, _, rfl, (by show 2 ≤ sizeLine; decide), fun L hL => ?_⟩
    have s1 := (Std.refl hD).new (o := .lst ([2, m].map V.int)) hL
    have dL := hD.new hL
    refine ⟨_, rfl, d, g, 2, rfl, s1.dk, by decide, by decide +kernel, fun w0 H2 w00 w01 hD2 k2 => ?_⟩
    obtain ⟨x, hx, gx⟩ := pickI (ms := [2, m]) w00 w01
    have hx2 : 0 ≤ x ∧ x ≤ 60 := by
      simp only [List.mem_cons, List.not_mem_nil, or_false] at hx
      rcases hx with rfl | rfl <;> omega
    have s2 := s1.draw hD2 k2
    refine ⟨L, _, _, V.int x, rfl, rfl, .of (k2 _ _ upd_same dL.1 dL.2), at_of (j := w0.toNat) (by omega) gx, d, g, x, rfl, hD2, hx2.1, by omega, fun p hs H3 s3 fp lp szp lenp => ?_⟩
    have s13 := s2.trans s3
    have fp0 : H p = none := s2.free fp
    clear dL hL gx hx s3 k2 hD2 s1 w00 w01 fp
    -- row
    refine ⟨_, rfl, _, rfl, (by show 2 ≤ sizeLine; decide), fun L hL => ?_⟩
    have s4 := s13.new (o := .lst ([3, m].map V.int)) hL
    have dL := s13.dk.new hL
    refine ⟨_, rfl, d, g, 3, rfl, s4.dk, by decide, by decide +kernel, fun w1 H4 _ _ hD4 k4 => ⟨rfl, .inr ⟨_, rfl, ?_⟩⟩⟩
    have s5 := s4.draw hD4 k4
    have lp5 := (lp.keep (Same.kd (same_upd (o := .lst ([3, m].map V.int)) hL))).keep k4
    obtain ⟨y, y1, gy⟩ : ∃ y : Int, (0 ≤ y ∧ y ≤ 60) ∧ atI ([3, m].map V.int) (if decide (V.int w1 = V.int 0) = true then (1 : Int) else 0) = some (V.int y) := by
      cases decide (V.int w1 = V.int 0) with
      | true => exact ⟨m, by omega, rfl⟩
      | false => exact ⟨3, by omega, rfl⟩
    refine ⟨L, _, _, V.int y, rfl, rfl, .of (k4 _ _ upd_same dL.1 dL.2), gy, d, g, y, rfl, hD4, y1.1, by omega, fun q r H5 s6 fq lq szq lenq => ?_⟩
    have s15 := s5.trans s6
    have lp6 := lp5.keep s6.kd
    have fq0 : H q = none := s5.free fq
    have r60 : r.length ≤ 60 := by omega
    have h60 : hs.length ≤ 60 := by omega
    have szp2 : Sz 2000 hs := szp.mono (by decide)
    clear dL hL gy k4 hD4 s4 s13 s5 s6 lp lp5 s2 fq szp lenp lenq
    -- heads told by the row from some place on
    refine ⟨fun σ H' => ∃ (p : Addr) (hs : List Int) (x4 x5 : Option V), Std H H' d g ∧ H p = none ∧ Lat H' d g p (hs.map V.int) ∧ Lat H' d g q (r.map V.int) ∧ Sz 2000 hs ∧ hs.length ≤ 60 ∧ σ = [some (.ref d), some (.int m), some (.ref p), some (.ref q), x4, x5],
      ⟨_, rfl, d, g, 2, rfl, s15.dk, by decide, by decide +kernel, fun w2 H6 _ _ hD6 k6 => ⟨rfl, _, rfl, ite2 (fun _ => ?_) (fun _ => ?_)⟩⟩, ?_⟩
    · have s16 := s15.draw hD6 k6
      have lp7 := lp6.keep k6
      have lq7 := lq.keep k6
      refine ⟨_, rfl, _, rfl, p, _, rfl, .inl (.of lp7.at_), _, _, rfl, rfl, d, g, _, rfl, hD6, ?_, ?_, fun lo H7 lo0 lo1 hD7 k7 => ?_⟩
      · show (0 : Int) < ((hs.map V.int).length : Int) + 1
        omega
      · exact small_log (by show (((hs.map V.int).length : Int) + 1).natAbs < 1024; rw [List.length_map]; omega)
      have lo2 : lo < ((hs.map V.int).length : Int) + 1 := lo1
      rw [List.length_map] at lo2
      obtain ⟨lo, rfl⟩ := Int.eq_ofNat_of_zero_le lo0
      have s17 := s16.draw hD7 k7
      have lp8 := lp7.keep k7
      have lq8 := lq7.keep k7
      refine ⟨_, rfl, _, rfl, _, rfl, p, _, rfl, .of lp8.at_, fun S hS => ?_⟩
      rw [map_take_int]
      have sS := same_upd (o := .lst ((hs.take lo).map V.int)) hS
      have eS := upd_same (H := H7) (a := S) (o := .lst ((hs.take lo).map V.int))
      generalize upd H7 S (.lst ((hs.take lo).map V.int)) = H8 at sS eS ⊢
      refine ⟨_, rfl, _, rfl, p, _, rfl, .inl (.of (sS _ _ lp8.at_)), _, _, rfl, ⟨by omega, by omega, by omega, by rw [List.length_map]; omega⟩, fun D hDn => ?_⟩
      rw [List.length_map]
      refine lc_range (lo := (lo : Int)) (n := _) (fun i H' => Same H8 H' ∧ H' D = some (.lst (((List.range i).map fun (j : Nat) => pol r ((lo : Int) + (j : Int))).map V.int))) ⟨same_upd hDn, upd_same⟩ ?_ ?_
      · rintro i H9 hi ⟨s9, e9⟩
        have rok : RowOk r := szq.rowOk (by decide) (by decide) (by omega)
        refine ⟨rfl, _, rfl, _, rfl, q, r, _, rfl, .of (s9 _ _ (sS _ _ lq8.at_)), rok.small (by omega), fun H10 s10 => ⟨_, s10 _ _ e9, ?_, fun b o e => ?_, ?_⟩⟩
        · rw [List.length_map, List.length_map, List.length_range]; exact small1000 (by omega)
        · rw [upd_ne (ne_of_none e hDn)]
          exact s10 b o (s9 b o e)
        · rw [upd_same, List.range_succ, List.map_append, List.map_append]; rfl
      · rintro H9 ⟨s9, e9⟩
        have s8 := (s17.same sS).same s9
        have hc : hs.length - lo = (((hs.length : Nat) : Int) - (lo : Int)).toNat := by omega
        refine ⟨S, D, _, _, rfl, rfl, s9 _ _ eS, e9, ?_, fun N hN => ?_⟩
        · rw [List.length_map, List.length_map, List.length_map, List.length_range, List.length_take]; exact Nat.le_of_lt (small1000 (by omega))
        have dN := s8.dk.new hN
        have sN := same_upd (o := .lst ((hs.take lo).map V.int ++ ((List.range (((hs.length : Nat) : Int) - (lo : Int)).toNat).map fun (j : Nat) => pol r ((lo : Int) + (j : Int))).map V.int)) hN
        refine ⟨N, hs.take lo ++ (List.range (((hs.length : Nat) : Int) - (lo : Int)).toNat).map fun (j : Nat) => pol r ((lo : Int) + (j : Int)), _, _, s8.new hN, s8.free hN, ⟨by rw [upd_same, List.map_append], dN.1, dN.2⟩, ⟨sN _ _ (s9 _ _ (sS _ _ lq8.at_)), lq8.nd, lq8.ng⟩, ?_, ?_, rfl⟩
        · intro y hy
          rcases List.mem_append.mp hy with h | h
          · exact szp2 y (List.mem_of_mem_take h)
          · obtain ⟨j, hj, rfl⟩ := List.mem_map.mp h
            rw [List.mem_range] at hj
            have := pol_size (b := 8) szq (n := (lo : Int) + (j : Int)) (by show _ ≤ 256; omega)
            exact Nat.lt_of_lt_of_le this (Nat.pow_le_pow_right (by decide) (by omega))
        · rw [List.length_append, List.length_map, List.length_range, List.length_take]; omega
    · exact ⟨p, hs, none, none, s15.draw hD6 k6, fp0, lp6.keep k6, lq.keep k6, szp2, h60, rfl⟩
    clear lp6 lq s15 szp2 h60 fp0
    clear hs p
    rintro σ H6 ⟨p, hs, x4, x5, s6, fp, lp, lq, szp, h60, rfl⟩
    -- zeros behind the row
    refine ⟨fun σ H' => ∃ (q : Addr) (r : List Int), Std H H' d g ∧ H q = none ∧ Lat H' d g p (hs.map V.int) ∧ Lat H' d g q (r.map V.int) ∧ Sz 700 r ∧ r.length ≤ 60 ∧ σ = [some (.ref d), some (.int m), some (.ref p), some (.ref q), x4, x5],
      ⟨_, rfl, q, _, rfl, .inl (.of lq.at_), _, rfl, _, _, rfl, rfl, _, rfl, ite2 (fun c1 => ⟨_, rfl, d, g, 3, rfl, s6.dk, by decide, by decide +kernel, fun w3 H7 _ _ hD7 k7 => ⟨rfl, _, rfl, ite2 (fun _ => ?_) (fun _ => ?_)⟩⟩) (fun _ => ?_)⟩, ?_⟩
    · have c2 : ((r.map V.int).length : Int) < m := of_decide_eq_true c1
      rw [List.length_map] at c2
      have s7 := s6.draw hD7 k7
      have lp7 := lp.keep k7
      have lq7 := lq.keep k7
      refine ⟨_, rfl, (by show 1 ≤ sizeLine; decide), fun Z hZ => ?_⟩
      have sZ := same_upd (o := .lst [.int 0]) hZ
      have dZ := hD7.new hZ
      refine ⟨_, rfl, _, rfl, _, rfl, q, _, rfl, .inl (.of (sZ _ _ lq7.at_)), _, _, rfl, rfl, d, g, _, rfl, hD7.same sZ, ?_, ?_, fun e H8 e0 e1 hD8 k8 => ⟨_, _, rfl, rfl, Z, 1 + e, [.int 0], rfl, rfl, k8 _ _ upd_same dZ.1 dZ.2, ?_, ?_, ?_, fun Y hY => ?_⟩⟩
      · show (0 : Int) < m - ((r.map V.int).length : Int)
        rw [List.length_map]; omega
      · exact small_log (by show (m - ((r.map V.int).length : Int)).natAbs < 1024; rw [List.length_map]; omega)
      · omega
      · have : e < m - ((r.map V.int).length : Int) := e1
        rw [List.length_map] at this
        omega
      · have : e < m - ((r.map V.int).length : Int) := e1
        rw [List.length_map] at this
        show 1 * (1 + e).toNat ≤ sizeLine
        rw [Nat.one_mul]
        exact Nat.le_of_lt (small1000 (by omega))
      have e2 : e < m - (r.length : Int) := by
        have : e < m - ((r.map V.int).length : Int) := e1
        rw [List.length_map] at this
        exact this
      rw [rep0]
      have s8 := (s7.same sZ).draw hD8 k8
      have lq8 := (lq7.keep (Same.kd sZ)).keep k8
      have lp8 := (lp7.keep (Same.kd sZ)).keep k8
      have sY := same_upd (o := .lst ((List.replicate (1 + e).toNat (0 : Int)).map V.int)) hY
      refine ⟨q, Y, _, _, rfl, rfl, sY _ _ lq8.at_, upd_same, ?_, fun N hN => ?_⟩
      · rw [List.length_map, List.length_map, List.length_replicate]; exact Nat.le_of_lt (small1000 (by omega))
      have s9 := s8.same sY
      have dN := s9.dk.new hN
      refine ⟨N, r ++ List.replicate (1 + e).toNat 0, s9.new hN, s9.free hN, (lp8.keep (Same.kd sY)).keep (Same.kd (same_upd hN)), ⟨by rw [upd_same, ← List.map_append], dN.1, dN.2⟩, ?_, ?_, rfl⟩
      · intro y hy
        rcases List.mem_append.mp hy with h | h
        · exact szq y h
        · rw [List.eq_of_mem_replicate h]; exact Nat.pow_pos (by decide)
      · rw [List.length_append, List.length_replicate]; omega
    · exact ⟨q, r, s6.draw hD7 k7, fq0, lp.keep k7, lq.keep k7, szq, r60, rfl⟩
    · exact ⟨q, r, s6, fq0, lp, lq, szq, r60, rfl⟩
    clear lp lq s6 szq r60 fq0
    clear r q
    rintro σ H7 ⟨q, r, s7, fq, lp, lq, szq, r60, rfl⟩
    refine ⟨_, rfl, _, rfl, (by show 2 ≤ sizeLine; decide), fun u hu => ?_⟩
    have su := same_upd (o := .tup [.ref p, .ref q]) hu
    exact k u p q hs r _ (s7.new hu) fp fq upd_same (lp.keep (Same.kd su)) (lq.keep (Same.kd su)) szp szq h60 r60
theorem lbg_eq {h : List Int} {f : Int → Int} : ∀ {k i : Nat}, lbg h f k ≤ i → i < k → h.getD i 0 = f (i : Int)
  | 0, _, _, h2 => by omega
  | k + 1, i, h1, h2 => by
    unfold lbg at h1
    by_cases c : h.getD k 0 = f (k : Int)
    · rw [if_pos c] at h1
      by_cases e : i = k
      · rw [e]; exact c
      · exact lbg_eq h1 (by omega)
    · rw [if_neg c] at h1
      omega
/-- the number at i that heads and row tell -/
def lawAt (hs r : List Int) (i : Int) : Int := if i < hs.length then hs.getD i.toNat 0 else pol r i
theorem pol_trimF (r : List Int) : pol (trim r) = pol r := funext fun n => pol_trim r n
theorem need_trim (hs r : List Int) : needL hs (trim r) = needL hs r := by unfold needL; rw [pol_trimF]
theorem numAt_need (hs r : List Int) {i : Int} (i0 : 0 ≤ i) : numAt (needL hs (trim r)) (trim r) i = lawAt hs r i := by
  rw [need_trim]
  obtain ⟨j, rfl⟩ := Int.eq_ofNat_of_zero_le i0
  have hle := lbg_le hs (pol r) hs.length
  have hl : (needL hs r).length = lbg hs (pol r) hs.length := by
    unfold needL
    rw [List.length_take]; omega
  unfold numAt lawAt
  rw [hl, Int.toNat_natCast, pol_trimF]
  by_cases c : (j : Int) < (lbg hs (pol r) hs.length : Nat)
  · rw [if_pos c, if_pos (by omega)]
    unfold needL
    rw [List.getD_eq_getElem?_getD, List.getD_eq_getElem?_getD, List.getElem?_take_of_lt (by omega)]
  · rw [if_neg c]
    by_cases c2 : (j : Int) < hs.length
    · rw [if_pos c2]
      exact (lbg_eq (h := hs) (f := pol r) (k := hs.length) (i := j) (by omega) (by omega)).symm
    · rw [if_neg c2]
def sp_refused (K : PySem.W.Frag) (C : Addr) : Sp := fun vs H Q _ => ∃ (c : Addr) (i : Int) (F P : List Int), vs = [.ref c, .int i] ∧ CnR C H c F P ∧ RowOk P ∧ i < 0 ∧ i.natAbs ≤ 2 ^ 119 ∧ ∀ H', Same H H' → Q (.bl true) H'
theorem ok_law_refused (T : Tx K w mg) : FnOk P w K mg base CX0 6 T.f_law_refused T.d_law_refused ["counted", "at"] (sp_refused K T.C_Counted) := by
  refine T.F_law_refused.ok sc_law_refused (fun vs H Q E h => ?_) (fun cdv A outer s H vs Q E hr h => ?_)
  · obtain ⟨c, i, F, P, rfl, _⟩ := h
    rfl
  · obtain ⟨c, i, F, P, rfl, cn, ok, i0, i1, k⟩ := h
    refine ⟨_,
    (pss_cons
      (ps_set (i := 2) sc_law_refused.nd rfl (.inl rfl) pe_non)
    (pss_cons
      (ps_try_as (i := 3) rfl rfl sc_law_refused.nd rfl rfl ⟨rfl, by decide, .inl T.mg_InvalidNumber⟩ takes0 (fun W pn xe tk po =>
        (pss_one
          (ps_expr (pe_ixOwn T.me_Counted_getitem T.fn_Counted_getitem (ok_Counted_getitem T) hr T.b_Counted_getitem (fun σ => passAt tk σ) (pv 0) (pv 1)))))
      (fun a oe cls d pn hz hf =>
        (pss_one
          (ps_set (i := 2) sc_law_refused.nd rfl (.inl rfl) (pe_xf T.xf_InvalidNumber T.nv_InvalidNumber hz hf (pv 3))))))
    (pss_one
      (ps_ret (pe_and (pe_callB call_isi (by rfl) T.m_isinstance (by decide +kernel) (pa_cons (pv 2) (pa_cons (pe_bltn (v := .ty "int") (by rfl) T.m_int (by decide +kernel) rfl) pa_nil))) (pe_and (pe_not (pe_callB call_isi (by rfl) T.m_isinstance (by decide +kernel) (pa_cons (pv 2) (pa_cons (pe_bltn (v := .ty "bool") (by rfl) T.m_bool (by decide +kernel) rfl) pa_nil)))) (pe_one (pe_cmpR op_eq (pv 2) (pv 1) (nomark _))))))))), ?_⟩
    obtain ⟨dx, p, f, hc, hp, hf⟩ := id cn
    refine ⟨_, rfl, _, rfl, c, dx, _, rfl, hc, c, i, F, P, rfl, cn, ok, i1, fun h => absurd h (by omega), fun _ d H1 hd s1 e => ⟨true, T.em_InvalidNumber_InvalidNumber, fun _ a ha => ?_, fun q => Bool.noConfusion q⟩⟩
    refine ⟨_, rfl, rfl, rfl, d, _, .int i, rfl, e, by simp [List.lookup], ?_⟩
    refine ⟨_, rfl, _, _, _, _, true, rfl, .ty "int", .base (.int i), kit_ty (by decide +kernel), _, rfl, iteT ?_⟩
    refine ⟨_, rfl, _, _, _, _, false, rfl, .ty "bool", .base (.int i), kit_ty (by decide +kernel), _, rfl, _, rfl, iteT ?_⟩
    refine ⟨_, rfl, _, rfl, rfl, ?_⟩
    rw [decide_eq_true (rfl : V.int i = V.int i)]
    exact k H1 s1
theorem iteEq {x : Bool} {A B : Prop} (h : x = true) (hB : B) : if (!x) = true then A else B := by
  rw [h]
  exact iteF hB
/-- a Counted, its lists apart from the deck -/
def CnD (C : Addr) (H : Hp) (d g c : Addr) (F P : List Int) : Prop := ∃ dx p f, H c = some (.ins C dx (cfl p f)) ∧ Lat H d g p (P.map V.int) ∧ Lat H d g f (F.map V.int)
theorem CnD.keep {C : Addr} {H H' : Hp} {d g c : Addr} {F P : List Int} (h : CnD C H d g c F P) (hD : Deck H d g) (k : Kd d g H H') : CnD C H' d g c F P := by
  obtain ⟨dx, p, f, h1, h2, h3⟩ := h
  obtain ⟨gs, a, m, g1, g2, _⟩ := hD
  refine ⟨dx, p, f, k _ _ h1 ?_ ?_, h2.keep k, h3.keep k⟩
  · intro z; rw [z, g1] at h1; cases h1
  · intro z; rw [z, g2] at h1; cases h1
theorem CnD.r {C : Addr} {H : Hp} {d g c : Addr} {F P : List Int} (h : CnD C H d g c F P) : ∃ dx p f, H c = some (.ins C dx (cfl p f)) ∧ H p = some (.lst (P.map V.int)) ∧ H f = some (.lst (F.map V.int)) ∧ CnR C H c F P := by
  obtain ⟨dx, p, f, h1, h2, h3⟩ := h
  exact ⟨dx, p, f, h1, h2.at_, h3.at_, dx, p, f, h1, h2.at_, h3.at_⟩
theorem mkC {C : Addr} {H : Hp} {f p : Addr} {h r : List Int} {R : Addr → Hp → Prop} {E : XK} (hf : H f = some (.lst (h.map V.int))) (hp : H p = some (.lst (r.map V.int))) (hl : h.length ≤ 900) (ok : RowOk r)
    (k : ∀ (x dx q F : Addr) (H' : Hp), Same H H' → H q = none → H F = none → H' x = some (.ins C dx (cfl q F)) → H' q = some (.lst ((trim r).map V.int)) → H' F = some (.lst ((needL h (trim r)).map V.int)) → R x H') :
    ∀ x dx, H x = none → H dx = none → dx ≠ x → sp_cinit K C [.ref x, .ref f, .ref p] (upd (upd H dx (.own x)) x (.ins C dx [])) (fun v H' => v = V.non ∧ R x H') E := by
  have sq : ∀ {x dx b : Addr} {o : HO}, H x = none → H dx = none → H b = some o → (upd (upd H dx (.own x)) x (.ins C dx [])) b = some o := fun hx hdx e => by
    rw [upd_ne (ne_of_none e hx), upd_ne (ne_of_none e hdx)]; exact e
  refine fun x dx hx hdx ne => ⟨x, dx, f, p, h, r, rfl, upd_same, sq hx hdx hf, sq hx hdx hp, hl, ok, fun q F H2 fq fF ex eq eF kp => ⟨rfl, ?_⟩⟩
  have s2 : Same H H2 := Same.made hx hdx kp
  have free : ∀ {p : Addr}, (upd (upd H dx (.own x)) x (.ins C dx [])) p = none → H p = none := fun {p} f => by
    cases h : H p with
    | none => rfl
    | some o =>
      rw [sq hx hdx h] at f
      cases f
  exact k x dx q F H2 s2 (free fq) (free fF) ex eq eF
theorem CnD.of {C : Addr} {H0 H : Hp} {d g x dx q F : Addr} {Ps Fs : List Int} (hD : Deck H0 d g) (fq : H0 q = none) (fF : H0 F = none) (ex : H x = some (.ins C dx (cfl q F))) (eq : H q = some (.lst (Ps.map V.int))) (eF : H F = some (.lst (Fs.map V.int))) : CnD C H d g x Fs Ps :=
  ⟨dx, q, F, ex, ⟨eq, (hD.new fq).1, (hD.new fq).2⟩, ⟨eF, (hD.new fF).1, (hD.new fF).2⟩⟩
/-! ### sums along a row -/
def sm (f : Nat → Int) : Nat → Int
  | 0 => 0
  | k + 1 => sm f k + f k
theorem sm_eq {f g : Nat → Int} : ∀ {n : Nat}, (∀ i, i < n → f i = g i) → sm f n = sm g n
  | 0, _ => rfl
  | n + 1, h => by
    show sm f n + f n = sm g n + g n
    rw [sm_eq (n := n) fun i hi => h i (by omega), h n (by omega)]
theorem sm_app (f : Nat → Int) (x : Nat) : ∀ y : Nat, sm f (x + y) = sm f x + sm (fun i => f (x + i)) y
  | 0 => by show sm f x = sm f x + 0; omega
  | y + 1 => by
    show sm f (x + y) + f (x + y) = sm f x + (sm (fun i => f (x + i)) y + f (x + y))
    rw [sm_app f x y]; omega
theorem sm_two (f g : Nat → Int) : ∀ n : Nat, sm (fun i => f i + g i) n = sm f n + sm g n
  | 0 => rfl
  | n + 1 => by
    show sm (fun i => f i + g i) n + (f n + g n) = sm f n + f n + (sm g n + g n)
    rw [sm_two f g n]; omega
theorem sm_list (f : Nat → Int) : ∀ n : Nat, ((List.range n).map f).sum = sm f n
  | 0 => rfl
  | n + 1 => by
    rw [List.range_succ, List.map_append, List.sum_append, sm_list f n]
    show sm f n + (f n + 0) = sm f n + f n
    omega
theorem sm_D {m : Nat} (f : Nat → Int → Int) : ∀ n : Nat, (∀ i, i < n → ∀ x, Dk m (f i) x = 0) → ∀ x, Dk m (fun x => sm (fun i => f i x) n) x = 0
  | 0, _ => Dk_zero m fun _ => rfl
  | n + 1, h => fun x => by
    show Dk m (fun x => sm (fun i => f i x) n + f n x) x = 0
    rw [Dk_add, sm_D f n (fun i hi => h i (by omega)) x, h n (by omega) x]; rfl
/-- a polynomial that begins with 0 and goes up by f -/
theorem anti {m : Nat} {f : Int → Int} (h : ∀ n, Dk m f n = 0) : ∃ G : Int → Int, (∀ n, Dk (m + 1) G n = 0) ∧ G 0 = 0 ∧ ∀ n, G (n + 1) = G n + f n := by
  have e : ∀ n, pol (0 :: newt m f 0) (n + 1) = pol (0 :: newt m f 0) n + f n := fun n => by
    have := pol_step n (0 :: newt m f 0)
    rw [show (0 :: newt m f 0).drop 1 = newt m f 0 from rfl, newton m f h n] at this
    omega
  refine ⟨pol (0 :: newt m f 0), fun n => ?_, ?_, e⟩
  · have := Dk_pol0 (0 :: newt m f 0) n
    rw [List.length_cons, newt_length] at this
    exact this
  · rw [pol_zero]; rfl
/-- p times q, one after the other: a polynomial too -/
theorem cv_pol {a : Nat} {p : Int → Int} (hp : ∀ n, Dk a p n = 0) : ∀ {b : Nat} {q : Int → Int}, (∀ n, Dk b q n = 0) → ∃ G : Int → Int, (∀ n, Dk (a + b) G n = 0) ∧ ∀ t : Nat, sm (fun i => p (i : Int) * q ((t : Int) - 1 - (i : Int))) t = G (t : Int)
  | 0, q, hq => ⟨fun _ => 0, Dk_zero _ fun _ => rfl, fun t => by
      have : ∀ n, q n = 0 := hq
      rw [sm_eq (g := fun _ => 0) fun i _ => by show _ * q _ = 0; rw [this, Int.mul_zero]]
      clear this
      induction t with
      | zero => rfl
      | succ t ih => show sm _ t + 0 = 0; rw [ih]; rfl⟩
  | b + 1, q, hq => by
    have hq1 : ∀ n, Dk b (D q) n = 0 := hq
    obtain ⟨G1, h1, e1⟩ := cv_pol hp (b := b) hq1
    have hd : ∀ n, Dk (a + b) (fun t => q 0 * p t + G1 t) n = 0 := fun n => by
      rw [Dk_add, Dk_mul, Dk_le (Nat.le_add_right a b) hp n, h1 n, Int.mul_zero]; rfl
    obtain ⟨G, h2, h0, hs⟩ := anti hd
    refine ⟨G, h2, fun t => ?_⟩
    induction t with
    | zero => exact h0.symm
    | succ t ih =>
      have ec : ((t + 1 : Nat) : Int) = (t : Int) + 1 := by omega
      rw [ec, hs, ← ih, ← e1 t]
      show sm (fun i => p (i : Int) * q ((t : Int) + 1 - 1 - (i : Int))) t + p (t : Int) * q ((t : Int) + 1 - 1 - (t : Int)) = _
      rw [show (t : Int) + 1 - 1 - (t : Int) = 0 by omega, Int.mul_comm (p (t : Int)) (q 0)]
      rw [sm_eq (g := fun i => p (i : Int) * q ((t : Int) - 1 - (i : Int)) + p (i : Int) * D q ((t : Int) - 1 - (i : Int))) fun i _ => ?_, sm_two]
      · omega
      · show p (i : Int) * q ((t : Int) + 1 - 1 - (i : Int)) = p (i : Int) * q ((t : Int) - 1 - (i : Int)) + p (i : Int) * (q ((t : Int) - 1 - (i : Int) + 1) - q ((t : Int) - 1 - (i : Int)))
        rw [show (t : Int) + 1 - 1 - (i : Int) = (t : Int) - 1 - (i : Int) + 1 by omega, Int.mul_sub]; omega
/-- how a row of numbers goes up -/
def stp (A : Int → Int) (k : Nat) : Int := if k = 0 then A 0 else A (k : Int) - A ((k : Int) - 1)
/-- the steps of A, and then B -/
def cnv (A B : Int → Int) (n : Nat) : Int := sm (fun k => stp A k * B ((n : Int) - (k : Int))) (n + 1)
theorem cnv_pol {A B p q : Int → Int} {a b x y : Nat} (hp : ∀ n, Dk a p n = 0) (hq : ∀ n, Dk b q n = 0) (eA : ∀ i : Nat, x ≤ i → A (i : Int) = p (i : Int)) (eB : ∀ i : Nat, y ≤ i → B (i : Int) = q (i : Int)) :
    ∃ G : Int → Int, (∀ n, Dk (a + b) G n = 0) ∧ ∀ n : Nat, x + y ≤ n → cnv A B n = G (n : Int) := by
  have hp1 : ∀ n, Dk a (fun k => p k + (-1) * p (k + (-1))) n = 0 := fun n => by
    rw [Dk_add, Dk_mul, Dk_shift a p, hp, hp]; rfl
  have hP : ∀ d n, Dk a (fun k => p (k + d) + (-1) * p (k + d + (-1))) n = 0 := fun d n => by
    have := Dk_shift a (fun k => p k + (-1) * p (k + (-1))) d n
    rw [hp1] at this
    exact this
  have hQ : ∀ d n, Dk b (fun k => q (k + d)) n = 0 := fun d n => by rw [Dk_shift, hq]
  obtain ⟨Gc, h1, e1⟩ := cv_pol (hP ((x : Int) + 1)) (hQ (y : Int))
  refine ⟨fun n => sm (fun k => stp A k * q (n + (-(k : Int)))) (x + 1) + (Gc (n + (-((x : Int) + (y : Int)))) + sm (fun i => B ((y : Int) - 1 - (i : Int)) * (p (n + (1 + (i : Int) - (y : Int))) + (-1) * p (n + (1 + (i : Int) - (y : Int)) + (-1)))) y), fun n => ?_, fun n hn => ?_⟩
  · rw [Dk_add, Dk_add]
    rw [sm_D (m := a + b) (fun k n => stp A k * q (n + (-(k : Int)))) (x + 1) (fun i _ z => by
      rw [Dk_mul, Dk_le (Nat.le_add_left b a) (hQ _) z, Int.mul_zero]) n]
    rw [Dk_shift, h1]
    rw [sm_D (m := a + b) (fun i n => B ((y : Int) - 1 - (i : Int)) * (p (n + (1 + (i : Int) - (y : Int))) + (-1) * p (n + (1 + (i : Int) - (y : Int)) + (-1)))) y (fun i _ z => by
      rw [Dk_mul, Dk_le (Nat.le_add_right a b) (hP _) z, Int.mul_zero]) n]
    rfl
  · obtain ⟨t, rfl⟩ : ∃ t, n = x + y + t := ⟨n - (x + y), by omega⟩
    unfold cnv
    rw [show x + y + t + 1 = (x + 1) + (t + y) by omega, sm_app _ (x + 1) (t + y), sm_app _ t y]
    have st : ∀ k : Nat, x + 1 ≤ k → stp A k = p (k : Int) + (-1) * p ((k : Int) + (-1)) := fun k hk => by
      unfold stp
      rw [if_neg (by omega), eA k (by omega), show (k : Int) - 1 = ((k - 1 : Nat) : Int) by omega, eA (k - 1) (by omega), show (k : Int) + (-1) = ((k - 1 : Nat) : Int) by omega]
      omega
    congr 1
    · exact sm_eq fun k hk => by
        rw [show ((x + y + t : Nat) : Int) - (k : Int) = ((x + y + t - k : Nat) : Int) by omega, eB _ (by omega), show ((x + y + t : Nat) : Int) + (-(k : Int)) = ((x + y + t - k : Nat) : Int) by omega]
    · congr 1
      · rw [show ((x + y + t : Nat) : Int) + (-((x : Int) + (y : Int))) = (t : Int) by omega, ← e1 t]
        exact sm_eq fun i hi => by
          rw [st _ (by omega), show ((x + y + t : Nat) : Int) - ((x + 1 + i : Nat) : Int) = ((y + (t - 1 - i) : Nat) : Int) by omega, eB _ (by omega), show (t : Int) - 1 - (i : Int) + (y : Int) = ((y + (t - 1 - i) : Nat) : Int) by omega,
            show (i : Int) + ((x : Int) + 1) = ((x + 1 + i : Nat) : Int) by omega]
      · exact sm_eq fun i hi => by
          rw [st _ (by omega), show ((x + y + t : Nat) : Int) - ((x + 1 + (t + i) : Nat) : Int) = (y : Int) - 1 - (i : Int) by omega, Int.mul_comm,
            show ((x + y + t : Nat) : Int) + (1 + (i : Int) - (y : Int)) = ((x + 1 + (t + i) : Nat) : Int) by omega]

def nN (f : Nat → Int) (m : Nat) : List Int := (List.range m).map f
theorem nN_len (f : Nat → Int) (m : Nat) : (nN f m).length = m := by unfold nN; rw [List.length_map, List.length_range]
theorem nN_get {f : Nat → Int} {m i : Nat} (h : i < m) : (nN f m)[i]? = some (f i) := by
  unfold nN
  rw [List.getElem?_map, List.getElem?_range h]; rfl
theorem nN_at {f : Nat → Int} {m i : Nat} (h : i < m) : ((nN f m).map V.int)[i]? = some (V.int (f i)) := by rw [List.getElem?_map, nN_get h]; rfl
theorem nN_succ (f : Nat → Int) (m : Nat) : nN f (m + 1) = nN f m ++ [f m] := by unfold nN; rw [List.range_succ, List.map_append]; rfl
theorem nN_eq {f g : Nat → Int} {m : Nat} (h : ∀ i, i < m → f i = g i) : nN f m = nN g m := by
  unfold nN
  exact List.map_congr_left fun i hi => h i (List.mem_range.mp hi)
theorem nN_app (f : Nat → Int) (x : Nat) : ∀ y : Nat, nN f (x + y) = nN f x ++ nN (fun i => f (x + i)) y
  | 0 => by show nN f x = nN f x ++ []; rw [List.append_nil]
  | y + 1 => by rw [nN_succ (fun i => f (x + i)) y, ← List.append_assoc, ← nN_app f x y]; exact nN_succ f (x + y)
theorem nN_take {f : Nat → Int} {m k : Nat} (h : k ≤ m) : (nN f m).take k = nN f k := by
  obtain ⟨y, rfl⟩ : ∃ y, m = k + y := ⟨m - k, by omega⟩
  rw [nN_app, List.take_left' (nN_len f k)]
theorem nN_drop {f : Nat → Int} {m k : Nat} (h : k ≤ m) : (nN f m).drop k = nN (fun i => f (k + i)) (m - k) := by
  obtain ⟨y, rfl⟩ : ∃ y, m = k + y := ⟨m - k, by omega⟩
  rw [nN_app, List.drop_left' (nN_len f k), Nat.add_sub_cancel_left]
theorem nN_self : ∀ hs : List Int, nN (fun i => hs.getD i 0) hs.length = hs := fun hs => by
  refine List.ext_getElem? fun i => ?_
  by_cases h : i < hs.length
  · rw [nN_get h, List.getElem?_eq_getElem h, List.getD_eq_getElem?_getD, List.getElem?_eq_getElem h]; rfl
  · rw [List.getElem?_eq_none (by rw [nN_len]; omega), List.getElem?_eq_none (by omega)]
/-- the numbers that heads and row tell -/
def tld (hs r : List Int) : Nat → Int := fun i => lawAt hs r (i : Int)
theorem tld_split {hs r : List Int} {m : Nat} (h : hs.length ≤ m) : nN (tld hs r) m = hs ++ nN (fun j => pol r ((hs.length : Int) + (j : Int))) (m - hs.length) := by
  obtain ⟨y, rfl⟩ : ∃ y, m = hs.length + y := ⟨m - hs.length, by omega⟩
  rw [nN_app, Nat.add_sub_cancel_left]
  congr 1
  · conv => rhs; rw [← nN_self hs]
    exact nN_eq fun i hi => by
      unfold tld lawAt
      rw [if_pos (by omega), Int.toNat_natCast]
  · exact nN_eq fun i _ => by
      unfold tld lawAt
      rw [if_neg (by omega), show ((hs.length + i : Nat) : Int) = (hs.length : Int) + (i : Int) by omega]
def sp_nums (K : PySem.W.Frag) : Sp := fun vs H Q _ => ∃ (h p : Addr) (hs r : List Int) (m : Nat), vs = [.ref h, .ref p, .int (m : Int)] ∧ H h = some (.lst (hs.map V.int)) ∧ H p = some (.lst (r.map V.int)) ∧ RowOk r ∧ hs.length ≤ m ∧ m ≤ 900 ∧ Out K H Q (nN (tld hs r) m)
theorem ok_law_numbers (T : Tx K w mg) : FnOk P w K mg base CX0 2 T.f_law_numbers T.d_law_numbers ["heads", "row", "many"] (sp_nums K) := by
  refine T.F_law_numbers.ok sc_law_numbers (fun vs H Q E h => ?_) (fun cdv A outer s H vs Q E hr h => ?_)
  · obtain ⟨h, p, hs, r, m, rfl, _⟩ := h
    rfl
  · obtain ⟨h, p, hs, r, m, rfl, hh, hp, rok, hm, m9, k⟩ := h
    refine ⟨_,
    (pss_one
      (ps_ret (pe_slice sl_list (pe_op op_cat (pv 0) (pe_lc (own := [("at", 3)]) (g := gName 3) rfl sc_law_numbers.nd (pi_range2 (by rfl) T.m_range (pa_cons (pe_callB call_len_seq (by rfl) T.m_len (by decide +kernel) (pa_cons (pv 0) pa_nil)) (pa_cons (pv 2) pa_nil))) (blkOk_by (N := ["heads", "row", "many", "at"]) (sc := defScope s_law_numbers) (own := [("at", 3)]) (by decide +kernel)) (fun _ _ _ _ _ => (pg_name (i := 3) sc_law_numbers.nd rfl (.inl rfl))) (fun _ _ _ _ _ => pts_nil) (fun _ _ _ _ _ => (pe_call (ok_law_value T) hr (by rfl) T.g_law_value T.F_law_value.kp T.b_law_value .nil pass0 (pa_cons (pv 1) (pa_cons (pv 3) pa_nil)))))) po_none (po_some (pv 2))))), ?_⟩
    refine ⟨_, rfl, _, rfl, h, _, rfl, .inl (.of hh), _, rfl, _, _, rfl, ⟨by omega, by rw [List.length_map]; omega, by omega, by omega⟩, fun D hDn => ?_⟩
    rw [List.length_map]
    refine lc_range (lo := (hs.length : Int)) (n := _) (fun i H' => Same H H' ∧ H' D = some (.lst ((nN (fun j => pol r ((hs.length : Int) + (j : Int))) i).map V.int))) ⟨same_upd hDn, upd_same⟩ ?_ ?_
    · rintro i H1 hi ⟨s1, e1⟩
      refine ⟨rfl, _, rfl, _, rfl, p, r, _, rfl, .of (s1 _ _ hp), rok.small (by omega), fun H2 s2 => ⟨_, s2 _ _ e1, ?_, fun b o e => ?_, ?_⟩⟩
      · rw [List.length_map, nN_len]; exact small1000 (by omega)
      · rw [upd_ne (ne_of_none e hDn)]
        exact s2 b o (s1 b o e)
      · rw [upd_same, nN_succ, List.map_append]; rfl
    · rintro H1 ⟨s1, e1⟩
      rw [show ((m : Int) - (hs.length : Int)).toNat = m - hs.length by omega] at e1
      refine ⟨h, D, _, _, rfl, rfl, s1 _ _ hh, e1, ?_, fun N hN => ?_⟩
      · rw [List.length_map, List.length_map, nN_len]; exact Nat.le_of_lt (small1000 (by omega))
      rw [← List.map_append, ← tld_split hm]
      have sN := same_upd (o := .lst ((nN (tld hs r) m).map V.int)) hN
      refine ⟨_, rfl, _, rfl, N, _, rfl, .of upd_same, fun q hq => ?_⟩
      rw [map_take_int, nN_take (Nat.le_refl m)]
      exact k q _ (fresh_of s1 (fresh_of sN hq)) (s1.trans (sN.trans (same_upd hq))) upd_same
/-- no step of the sums is too long -/
def MOk (A B : Nat → Int) (m : Nat) : Prop := ∀ k j, k < m → j < m → CMulW (A k) (B j)
def sp_foll (K : PySem.W.Frag) : Sp := fun vs H Q _ => ∃ (a b : Addr) (A B : Int → Int) (m : Nat), vs = [.ref a, .ref b] ∧ H a = some (.lst ((nN (fun i => A i) m).map V.int)) ∧ H b = some (.lst ((nN (fun i => B i) m).map V.int)) ∧ 1 ≤ m ∧ m ≤ 900 ∧ MOk (stp A) (fun i => B i) m ∧ Out K H Q (nN (cnv A B) m)
theorem ok_law_followed (T : Tx K w mg) : FnOk P w K mg base CX0 1 T.f_law_followed T.d_law_followed ["one", "two"] (sp_foll K) := by
  refine T.F_law_followed.ok sc_law_followed (fun vs H Q E h => ?_) (fun cdv A outer s H vs Q E hr h => ?_)
  · obtain ⟨a, b, A, B, m, rfl, _⟩ := h
    rfl
  · obtain ⟨a, b, F, G, m, rfl, ha, hb, m0, m9, mok, k⟩ := h
    refine ⟨_,
    (pss_cons
      (ps_set (i := 2) sc_law_followed.nd rfl (.inr rfl) (pe_op op_cat (pe_slice sl_list (pv 0) po_none (po_some pe_int)) (pe_lc (own := [("k", 3)]) (g := gName 3) rfl sc_law_followed.nd (pi_range2 (by rfl) T.m_range (pa_cons pe_int (pa_cons (pe_callB call_len_seq (by rfl) T.m_len (by decide +kernel) (pa_cons (pv 0) pa_nil)) pa_nil))) (blkOk_by (N := ["one", "two", "steps", "k", "last_day"]) (sc := defScope s_law_followed) (own := [("k", 3)]) (by decide +kernel)) (fun _ _ _ _ _ => (pg_name (i := 3) sc_law_followed.nd rfl (.inl rfl))) (fun _ _ _ _ _ => pts_nil) (fun _ _ _ _ _ => (pe_op op_sub (pe_ix (r := rIxL K) ix_list (pv 0) (pv 3) (fun _ _ => rfl)) (pe_ix (r := rIxL K) ix_list (pv 0) (pe_op op_sub (pv 3) pe_int) (fun _ _ => rfl)))))))
    (pss_one
      (ps_ret (pe_lc (own := [("last_day", 4)]) (g := gName 4) rfl sc_law_followed.nd (pi_range1 (by rfl) T.m_range (pa_cons (pe_callB call_len_seq (by rfl) T.m_len (by decide +kernel) (pa_cons (pv 0) pa_nil)) pa_nil)) (blkOk_by (N := ["one", "two", "steps", "k", "last_day"]) (sc := defScope s_law_followed) (own := [("last_day", 4)]) (by decide +kernel)) (fun _ _ _ _ _ => (pg_name (i := 4) sc_law_followed.nd rfl (.inr rfl))) (fun _ _ _ _ _ => pts_nil) (fun _ _ _ _ _ => (pe_callB (id := "sum") (r := rSum K) (cr_sum rfl) (by rfl) T.m_sum (by decide +kernel) (pa_cons (pe_lc (own := [("k", 3)]) (g := gName 3) rfl sc_law_followed.nd (pi_range1 (by rfl) T.m_range (pa_cons (pe_op op_add (pv 4) pe_int) pa_nil)) (blkOk_by (N := ["one", "two", "steps", "k", "last_day"]) (own := [("k", 3)]) (by rfl)) (fun _ _ _ _ _ => (pg_name (i := 3) sc_law_followed.nd rfl (.inl rfl))) (fun _ _ _ _ _ => pts_nil) (fun _ _ _ _ _ => (pe_op op_mulW (pe_ix (r := rIxL K) ix_list (pv 2) (pv 3) (fun _ _ => rfl)) (pe_ix (r := rIxL K) ix_list (pv 1) (pe_op op_sub (pv 4) (pv 3)) (fun _ _ => rfl))))) pa_nil))))))), ?_⟩
    have lF := nN_len (fun i => F i) m
    have lG := nN_len (fun i => G i) m
    refine ⟨_, rfl, _, rfl, a, _, rfl, .of ha, fun S hS => ?_⟩
    have e0 : cutV ((nN (fun i => F i) m).map V.int) none (some (1 : Int)) = (nN (stp F) 1).map V.int := by
      rw [show (1 : Int) = ((1 : Nat) : Int) from rfl, map_take_int, nN_take m0]; rfl
    rw [e0]
    have s1 := same_upd (o := .lst ((nN (stp F) 1).map V.int)) hS
    have eS := upd_same (H := H) (a := S) (o := .lst ((nN (stp F) 1).map V.int))
    generalize upd H S (.lst ((nN (stp F) 1).map V.int)) = H1 at s1 eS ⊢
    refine ⟨_, rfl, a, _, rfl, .inl (.of (s1 _ _ ha)), _, _, rfl, ⟨by omega, by omega, by omega, by rw [List.length_map]; omega⟩, fun D hDn => ?_⟩
    rw [List.length_map, lF]
    refine lc_range (lo := 1) (n := _) (fun i H' => Same H1 H' ∧ H' D = some (.lst ((nN (fun j => stp F (1 + j)) i).map V.int))) ⟨same_upd hDn, upd_same⟩ ?_ ?_
    · rintro i H2 hi ⟨s2, e2⟩
      have hi2 : 1 + i < m := by omega
      have ha2 := s2 _ _ (s1 _ _ ha)
      refine ⟨rfl, _, rfl, _, rfl, a, _, _, _, rfl, rfl, .of ha2, at_of (j := 1 + i) (by omega) (nN_at hi2), _, rfl, _, rfl, _, _, rfl, rfl, a, _, _, _, rfl, rfl, .of ha2, at_of (j := i) (by omega) (nN_at (by omega)), _, _, rfl, rfl, _, e2, ?_, fun b o e => ?_, ?_⟩
      · rw [List.length_map, nN_len]; exact small1000 (by omega)
      · rw [upd_ne (ne_of_none e hDn)]
        exact s2 b o e
      · rw [upd_same, nN_succ, List.map_append, show stp F (1 + i) = F ((1 + i : Nat) : Int) - F (i : Int) from ?_]
        · rfl
        · unfold stp
          rw [if_neg (by omega), show ((1 + i : Nat) : Int) - 1 = (i : Int) by omega]
    · rintro H2 ⟨s2, e2⟩
      rw [show ((m : Int) - 1).toNat = m - 1 by omega] at e2
      refine ⟨S, D, _, _, rfl, rfl, s2 _ _ eS, e2, ?_, fun N hN => ?_⟩
      · rw [List.length_map, List.length_map, nN_len, nN_len]; exact Nat.le_of_lt (small1000 (by omega))
      rw [← List.map_append, ← nN_app, show 1 + (m - 1) = m by omega]
      have s3 := (s1.trans s2).trans (same_upd (o := .lst ((nN (stp F) m).map V.int)) hN)
      have eN := upd_same (H := H2) (a := N) (o := .lst ((nN (stp F) m).map V.int))
      generalize upd H2 N (.lst ((nN (stp F) m).map V.int)) = H3 at s3 eN ⊢
      refine ⟨_, rfl, a, _, rfl, .inl (.of (s3 _ _ ha)), _, rfl, ?_, ?_, fun D hDn => ?_⟩
      · rw [List.length_map]; omega
      · rw [List.length_map]; omega
      rw [List.length_map, lF]
      refine lc_range (lo := 0) (n := _) (fun i H' => Same H3 H' ∧ H' D = some (.lst ((nN (cnv F G) i).map V.int))) ⟨same_upd hDn, upd_same⟩ ?_ ?_
      · rintro i H4 hi ⟨s4, e4⟩
        have hi2 : i < m := by omega
        refine ⟨rfl, _, rfl, _, _, rfl, rfl, _, rfl, ?_, ?_, fun D2 hD2 => ?_⟩
        · omega
        · omega
        refine lc_range (lo := 0) (n := _) (fun j H' => Same H4 H' ∧ H' D2 = some (.lst ((nN (fun k => stp F k * G ((i : Int) - (k : Int))) j).map V.int))) ⟨same_upd hD2, upd_same⟩ ?_ ?_
        · rintro j H5 hj ⟨s5, e5⟩
          have hj2 : j < i + 1 := by omega
          refine ⟨rfl, _, rfl, _, rfl, N, _, _, _, rfl, rfl, .of (s5 _ _ (s4 _ _ eN)), at_of (j := j) (by omega) (nN_at (by omega)), _, rfl, _, rfl, _, rfl, _, _, rfl, rfl, b, _, _, _, rfl, rfl, .of (s5 _ _ (s4 _ _ (s3 _ _ hb))), at_of (j := i - j) (by omega) (nN_at (by omega)), _, _, rfl, rfl, mok j (i - j) (by omega) (by omega), _, e5, ?_, fun b o e => ?_, ?_⟩
          · rw [List.length_map, nN_len]; exact small1000 (by omega)
          · rw [upd_ne (ne_of_none e hD2)]
            exact s5 b o e
          · rw [upd_same, nN_succ, List.map_append, show (i : Int) - (j : Int) = ((i - j : Nat) : Int) by omega]; rfl
        · rintro H5 ⟨s5, e5⟩
          rw [show ((0 + (i : Int)) + 1).toNat = i + 1 by omega] at e5
          refine ⟨D2, _, rfl, .of e5, _, s5 _ _ e4, ?_, fun b o e => ?_, ?_⟩
          · rw [List.length_map, nN_len]; exact small1000 (by omega)
          · rw [upd_ne (ne_of_none e hDn)]
            exact s5 b o (s4 b o e)
          · rw [upd_same, show (nN (fun k => stp F k * G ((i : Int) - (k : Int))) (i + 1)).sum = cnv F G i from sm_list _ _, nN_succ, List.map_append]; rfl
      · rintro H4 ⟨s4, e4⟩
        rw [show ((m : Int)).toNat = m by omega] at e4
        exact k D H4 (fresh_of s3 hDn) (s3.trans s4) e4
/-! ### one after the other -/
theorem CnR.same {C : Addr} {H H' : Hp} {c : Addr} {F R : List Int} (h : CnR C H c F R) (s : Same H H') : CnR C H' c F R := by
  obtain ⟨dx, p, f, h1, h2, h3⟩ := h
  exact ⟨dx, p, f, s _ _ h1, s _ _ h2, s _ _ h3⟩
def sp_oao (K : PySem.W.Frag) (C : Addr) : Sp := fun vs H Q _ => ∃ (c e : Addr) (F1 P1 F2 P2 : List Int) (m : Nat), vs = [.ref c, .ref e, .int (m : Int)] ∧ CnR C H c F1 P1 ∧ CnR C H e F2 P2 ∧ RowOk P1 ∧ RowOk P2 ∧ m ≤ 900 ∧
  MOk (stp (numAt F1 P1)) (fun j => numAt F2 P2 j) m ∧ Out K H Q (nN (cnv (numAt F1 P1) (numAt F2 P2)) m)
theorem ok_one_after_other (T : Tx K w mg) : FnOk P w K mg base CX0 6 T.f_one_after_other T.d_one_after_other ["one", "other", "many"] (sp_oao K T.C_Counted) := by
  refine T.F_one_after_other.ok sc_one_after_other (fun vs H Q E h => ?_) (fun cdv A outer s H vs Q E hr h => ?_)
  · obtain ⟨c, e, F1, P1, F2, P2, m, rfl, _⟩ := h
    rfl
  · obtain ⟨c, e, F1, P1, F2, P2, m, rfl, cn, en, ok1, ok2, m9, mok, k⟩ := h
    refine ⟨_,
    (pss_cons
      (ps_setLc (i := 3) (own := [("n", 6)]) (g := gName 6) rfl sc_one_after_other.nd rfl rfl (sw_true rfl rfl rfl (by decide +kernel)) (pi_range1 (by rfl) T.m_range (pa_cons (pv 2) pa_nil)) (blkOk_by (N := ["one", "other", "many", "mine", "others", "steps", "n", "number", "later", "k"]) (sc := defScope s_one_after_other) (own := [("n", 6)]) (by decide +kernel)) (fun _ _ _ _ _ => (pg_name (i := 6) sc_one_after_other.nd rfl (.inl rfl))) (fun _ _ _ _ _ => pts_nil) (fun _ _ _ _ _ => (pe_ixOwn T.me_Counted_getitem T.fn_Counted_getitem (ok_Counted_getitem T) hr T.b_Counted_getitem (fun σ => passLS σ) (pv 0) (pv 6))))
    (pss_cons
      (ps_set (i := 4) sc_one_after_other.nd rfl (.inr rfl) (pe_lc (own := [("n", 6)]) (g := gName 6) rfl sc_one_after_other.nd (pi_range1 (by rfl) T.m_range (pa_cons (pv 2) pa_nil)) (blkOk_by (N := ["one", "other", "many", "mine", "others", "steps", "n", "number", "later", "k"]) (sc := defScope s_one_after_other) (own := [("n", 6)]) (by decide +kernel)) (fun _ _ _ _ _ => (pg_name (i := 6) sc_one_after_other.nd rfl (.inl rfl))) (fun _ _ _ _ _ => pts_nil) (fun _ _ _ _ _ => (pe_ixOwn T.me_Counted_getitem T.fn_Counted_getitem (ok_Counted_getitem T) hr T.b_Counted_getitem (fun σ => passLS σ) (pv 1) (pv 6)))))
    (pss_cons
      (ps_set (i := 5) sc_one_after_other.nd rfl (.inr rfl) (pe_lc (own := [("number", 7), ("later", 8)]) (g := gTup K 2 (gCons (gName 7) (gCons (gName 8) gNil))) rfl sc_one_after_other.nd (pi_zip (by rfl) T.m_zip (pa_cons (pe_lst (pa_cons pe_int (StX.pa_star (pv 3) pa_nil))) (pa_cons (pv 3) pa_nil))) (blkOk_by (N := ["one", "other", "many", "mine", "others", "steps", "n", "number", "later", "k"]) (sc := defScope s_one_after_other) (own := [("number", 7), ("later", 8)]) (by decide +kernel)) (fun _ _ _ _ _ => (pg_tupK (K := K) rfl (by rfl) (pgs_cons (pg_name (i := 7) sc_one_after_other.nd rfl (.inl rfl)) (pgs_cons (pg_name (i := 8) sc_one_after_other.nd rfl (.inl rfl)) pgs_nil)))) (fun _ _ _ _ _ => pts_nil) (fun _ _ _ _ _ => (pe_op op_sub (pv 8) (pv 7)))))
    (pss_one
      (ps_ret (pe_lc (own := [("n", 6)]) (g := gName 6) rfl sc_one_after_other.nd (pi_range1 (by rfl) T.m_range (pa_cons (pv 2) pa_nil)) (blkOk_by (N := ["one", "other", "many", "mine", "others", "steps", "n", "number", "later", "k"]) (sc := defScope s_one_after_other) (own := [("n", 6)]) (by decide +kernel)) (fun _ _ _ _ _ => (pg_name (i := 6) sc_one_after_other.nd rfl (.inr rfl))) (fun _ _ _ _ _ => pts_nil) (fun _ _ _ _ _ => (pe_callB (id := "sum") (r := rSum K) (cr_sum rfl) (by rfl) T.m_sum (by decide +kernel) (pa_cons (pe_lc (own := [("k", 9)]) (g := gName 9) rfl sc_one_after_other.nd (pi_range1 (by rfl) T.m_range (pa_cons (pe_op op_add (pv 6) pe_int) pa_nil)) (blkOk_by (N := ["one", "other", "many", "mine", "others", "steps", "n", "number", "later", "k"]) (own := [("k", 9)]) (by rfl)) (fun _ _ _ _ _ => (pg_name (i := 9) sc_one_after_other.nd rfl (.inl rfl))) (fun _ _ _ _ _ => pts_nil) (fun _ _ _ _ _ => (pe_op op_mulW (pe_ix (r := rIxL K) ix_list (pv 5) (pv 9) (fun _ _ => rfl)) (pe_ix (r := rIxL K) ix_list (pv 4) (pe_op op_sub (pv 6) (pv 9)) (fun _ _ => rfl))))) pa_nil))))))))), ?_⟩
    generalize hF : numAt F1 P1 = F at mok k
    generalize hG : numAt F2 P2 = G at mok k
    refine ⟨_, rfl, _, rfl, ?_, ?_, fun M hM => ?_⟩
    · omega
    · omega
    refine lc_range (lo := 0) (n := _) (fun i H' => Same H H' ∧ H' M = some (.lst ((nN (fun j => F j) i).map V.int))) ⟨same_upd hM, upd_same⟩ ?_ ?_
    · rintro i H1 hi ⟨s1, e1⟩
      have cn1 := cn.same s1
      obtain ⟨dx, p, f, hc, _, _⟩ := id cn1
      have hi2 : i < m := by omega
      refine ⟨rfl, _, rfl, _, rfl, c, dx, _, rfl, hc, c, _, F1, P1, rfl, cn1, ok1, Nat.le_trans (m := 1000) (by omega) (by decide +kernel), fun _ H2 s2 => ⟨_, s2 _ _ e1, ?_, fun b o e => ?_, ?_⟩, fun neg => absurd neg (by omega)⟩
      · rw [List.length_map, nN_len]; exact small1000 (by omega)
      · rw [upd_ne (ne_of_none e hM)]
        exact s2 b o (s1 b o e)
      · rw [upd_same, nN_succ, List.map_append, hF, Int.zero_add]; rfl
    rintro H1 ⟨s1, eM⟩
    rw [show ((m : Int)).toNat = m by omega] at eM
    refine ⟨_, rfl, _, rfl, ?_, ?_, fun O hO => ?_⟩
    · omega
    · omega
    refine lc_range (lo := 0) (n := _) (fun i H' => Same H1 H' ∧ H' O = some (.lst ((nN (fun j => G j) i).map V.int))) ⟨same_upd hO, upd_same⟩ ?_ ?_
    · rintro i H2 hi ⟨s2, e2⟩
      have cn1 := en.same (s1.trans s2)
      obtain ⟨dx, p, f, hc, _, _⟩ := id cn1
      have hi2 : i < m := by omega
      refine ⟨rfl, _, rfl, _, rfl, e, dx, _, rfl, hc, e, _, F2, P2, rfl, cn1, ok2, Nat.le_trans (m := 1000) (by omega) (by decide +kernel), fun _ H3 s3 => ⟨_, s3 _ _ e2, ?_, fun b o e => ?_, ?_⟩, fun neg => absurd neg (by omega)⟩
      · rw [List.length_map, nN_len]; exact small1000 (by omega)
      · rw [upd_ne (ne_of_none e hO)]
        exact s3 b o (s2 b o e)
      · rw [upd_same, nN_succ, List.map_append, hG, Int.zero_add]; rfl
    rintro H2 ⟨s2, eO⟩
    rw [show ((m : Int)).toNat = m by omega] at eO
    have eM2 := s2 _ _ eM
    refine ⟨_, rfl, M, _, rfl, .inr (.of eM2), ?_, fun Z hZ => ?_⟩
    · rw [List.append_nil, List.length_cons, List.length_map, nN_len]; exact Nat.le_of_lt (small1000 (by omega))
    rw [List.append_nil]
    have s3 := same_upd (o := .lst (V.int 0 :: (nN (fun j => F j) m).map V.int)) hZ
    have eZ := upd_same (H := H2) (a := Z) (o := .lst (V.int 0 :: (nN (fun j => F j) m).map V.int))
    generalize upd H2 Z (.lst (V.int 0 :: (nN (fun j => F j) m).map V.int)) = H3 at s3 eZ ⊢
    have eM3 := s3 _ _ eM2
    refine ⟨_, rfl, Z, M, V.int 0 :: (nN (fun j => F j) m).map V.int, (nN (fun j => F j) m).map V.int, rfl, .of eZ, .of eM3, fun S hS => ?_⟩
    refine lc_it (walk_zip (xs := V.int 0 :: (nN (fun j => F j) m).map V.int) (ys := (nN (fun j => F j) m).map V.int) (n := m) (by rw [List.length_cons, List.length_map, nN_len]; omega)) (fun i H' => Same H3 H' ∧ H' S = some (.lst ((nN (stp F) i).map V.int))) ?_ ?_ ?_ ?_
    · exact ⟨same_upd hS, upd_same⟩
    · rintro i H' _ ⟨s4, _⟩
      exact ⟨.of (s4 _ _ eZ), .of (s4 _ _ eM3)⟩
    · rintro i x H4 H5 hi ⟨s4, e4⟩ ⟨U, u, v, rfl, hU, rfl, hu, hv⟩
      have hi2 : i < m := by omega
      have hv : ((nN (fun j => F j) m).map V.int)[i]? = some v := hv
      rw [nN_at hi2] at hv
      obtain rfl := Option.some.inj hv
      obtain ⟨u', rfl, eu⟩ : ∃ u' : Int, u = V.int u' ∧ F (i : Int) - u' = stp F i := by
        have hu : (V.int 0 :: (nN (fun j => F j) m).map V.int)[i]? = some u := hu
        cases i with
        | zero =>
          rw [List.getElem?_cons_zero] at hu
          exact ⟨0, (Option.some.inj hu).symm, Int.sub_zero _⟩
        | succ i =>
          rw [List.getElem?_cons_succ, nN_at (by omega)] at hu
          refine ⟨F i, (Option.some.inj hu).symm, ?_⟩
          unfold stp
          rw [if_neg (by omega), show ((i + 1 : Nat) : Int) - 1 = (i : Int) by omega]
      have s5 := s4.trans (same_upd (o := .tup [.int u', .int (F (i : Int))]) hU)
      refine ⟨U, _, rfl, .of upd_same, rfl, _, _, rfl, _, _, rfl, rfl, rfl, _, rfl, _, rfl, _, _, rfl, rfl, _, same_upd hU _ _ e4, ?_, ?_, ?_⟩
      · rw [List.length_map, nN_len]; exact small1000 (by omega)
      · intro b o e
        rw [upd_ne (ne_of_none e hS)]
        exact s5 b o e
      · rw [upd_same, nN_succ, List.map_append, ← eu]; rfl
    rintro H4 ⟨s4, eS⟩
    have sA := ((s1.trans s2).trans s3).trans s4
    have eO4 := s4 _ _ (s3 _ _ eO)
    clear eM3 eM2 eM eZ
    refine ⟨_, rfl, _, rfl, ?_, ?_, fun D hDn => ?_⟩
    · omega
    · omega
    refine lc_range (lo := 0) (n := _) (fun i H' => Same H4 H' ∧ H' D = some (.lst ((nN (cnv F G) i).map V.int))) ⟨same_upd hDn, upd_same⟩ ?_ ?_
    · rintro i H5 hi ⟨s5, e5⟩
      have hi2 : i < m := by omega
      refine ⟨rfl, _, rfl, _, _, rfl, rfl, _, rfl, ?_, ?_, fun D2 hD2 => ?_⟩
      · omega
      · omega
      refine lc_range (lo := 0) (n := _) (fun j H' => Same H5 H' ∧ H' D2 = some (.lst ((nN (fun k => stp F k * G ((i : Int) - (k : Int))) j).map V.int))) ⟨same_upd hD2, upd_same⟩ ?_ ?_
      · rintro j H6 hj ⟨s6, e6⟩
        have hj2 : j < i + 1 := by omega
        refine ⟨rfl, _, rfl, _, rfl, S, _, _, _, rfl, rfl, .of (s6 _ _ (s5 _ _ eS)), at_of (j := j) (by omega) (nN_at (by omega)), _, rfl, _, rfl, _, rfl, _, _, rfl, rfl, O, _, _, _, rfl, rfl, .of (s6 _ _ (s5 _ _ eO4)), at_of (j := i - j) (by omega) (nN_at (by omega)), _, _, rfl, rfl, mok j (i - j) (by omega) (by omega), _, e6, ?_, fun b o e => ?_, ?_⟩
        · rw [List.length_map, nN_len]; exact small1000 (by omega)
        · rw [upd_ne (ne_of_none e hD2)]
          exact s6 b o e
        · rw [upd_same, nN_succ, List.map_append, show (i : Int) - (j : Int) = ((i - j : Nat) : Int) by omega]; rfl
      · rintro H6 ⟨s6, e6⟩
        rw [show ((0 + (i : Int)) + 1).toNat = i + 1 by omega] at e6
        refine ⟨D2, _, rfl, .of e6, _, s6 _ _ e5, ?_, fun b o e => ?_, ?_⟩
        · rw [List.length_map, nN_len]; exact small1000 (by omega)
        · rw [upd_ne (ne_of_none e hDn)]
          exact s6 b o (s5 b o e)
        · rw [upd_same, show (nN (fun k => stp F k * G ((i : Int) - (k : Int))) (i + 1)).sum = cnv F G i from sm_list _ _, nN_succ, List.map_append]; rfl
    · rintro H5 ⟨s5, e5⟩
      rw [show ((m : Int)).toNat = m by omega] at e5
      exact k D H5 (fresh_of sA hDn) (sA.trans s5) e5
/-! ### one >> two -/
theorem stp_nat {A : Int → Int} {B : Nat} {m : Nat} (h : ∀ i : Nat, i < m → (A (i : Int)).natAbs < 2 ^ B) {k : Nat} (hk : k < m) : (stp A k).natAbs < 2 ^ (B + 1) := by
  have e : (2 : Nat) ^ (B + 1) = 2 ^ B + 2 ^ B := by rw [Nat.pow_succ]; omega
  unfold stp
  by_cases z : k = 0
  · rw [if_pos z]
    have := h 0 (by omega)
    have e0 : A ((0 : Nat) : Int) = A 0 := rfl
    omega
  · rw [if_neg z, show (k : Int) - 1 = ((k - 1 : Nat) : Int) by omega]
    have h1 := h k hk
    have h2 := h (k - 1) (by omega)
    omega
theorem sm_size {f : Nat → Int} {B : Nat} : ∀ {n : Nat}, (∀ i, i < n → (f i).natAbs < 2 ^ B) → (sm f n).natAbs ≤ n * 2 ^ B
  | 0, _ => Nat.zero_le _
  | n + 1, h => by
    have h1 := sm_size (n := n) fun i hi => h i (by omega)
    have h2 := h n (by omega)
    have e : (n + 1) * 2 ^ B = n * 2 ^ B + 2 ^ B := by rw [Nat.add_mul, Nat.one_mul]
    show (sm f n + f n).natAbs ≤ _
    omega
theorem cnv_size {A B : Int → Int} {X Y : Nat} {m : Nat} (hA : ∀ i : Nat, i < m → (A (i : Int)).natAbs < 2 ^ X) (hB : ∀ i : Nat, i < m → (B (i : Int)).natAbs < 2 ^ Y) (hm : m ≤ 512) {n : Nat} (hn : n < m) : (cnv A B n).natAbs < 2 ^ (X + 1 + Y + 10) := by
  have h := sm_size (f := fun k => stp A k * B ((n : Int) - (k : Int))) (B := X + 1 + Y) (n := n + 1) fun i hi => by
    rw [show (n : Int) - (i : Int) = ((n - i : Nat) : Int) by omega]
    exact wide_lt (stp_nat hA (by omega)) (hB _ (by omega))
  have e : (2 : Nat) ^ (X + 1 + Y + 10) = 1024 * 2 ^ (X + 1 + Y) := by rw [Nat.pow_add, Nat.mul_comm]
  have p : 0 < 2 ^ (X + 1 + Y) := Nat.pow_pos (by decide)
  have : (n + 1) * 2 ^ (X + 1 + Y) ≤ 512 * 2 ^ (X + 1 + Y) := Nat.mul_le_mul_right _ (by omega)
  unfold cnv
  omega
theorem at_size {F R : List Int} (hF : Sz 2000 F) (hP : Sz 700 R) (hl : R.length ≤ 60) {i : Nat} (hi : i < 400) : (numAt F R (i : Int)).natAbs < 2 ^ 2000 := by
  unfold numAt
  split
  · rename_i c
    rw [Int.toNat_natCast, List.getD_eq_getElem?_getD, List.getElem?_eq_getElem (by omega)]
    exact hF _ (List.getElem_mem _)
  · have := pol_size (b := 9) hP (n := (i : Int)) (by show _ ≤ 512; omega)
    exact Nat.lt_of_lt_of_le this (Nat.pow_le_pow_right (by decide) (by omega))
structure NOk (F R : List Int) : Prop where
  f : Sz 2000 F
  r : Sz 700 R
  fl : F.length ≤ 60
  rl : R.length ≤ 60
theorem NOk.mok {F1 P1 F2 P2 : List Int} (h1 : NOk F1 P1) (h2 : NOk F2 P2) {m : Nat} (hm : m ≤ 400) : MOk (stp (numAt F1 P1)) (fun j => numAt F2 P2 (j : Int)) m := fun k j hk hj =>
  wide_mul (stp_nat (m := m) (fun i hi => at_size h1.f h1.r h1.rl (by omega)) hk) (at_size h2.f h2.r h2.rl (by omega)) (by decide) (by decide) (by decide)
theorem NOk.row {F R : List Int} (h : NOk F R) : RowOk R := h.r.rowOk (by decide) (by decide) (Nat.le_trans h.rl (by decide))
def sp_shr (K : PySem.W.Frag) (C : Addr) : Sp := fun vs H Q _ => ∃ (c e : Addr) (F1 P1 F2 P2 : List Int), vs = [.ref c, .ref e] ∧ CnR C H c F1 P1 ∧ CnR C H e F2 P2 ∧ NOk F1 P1 ∧ NOk F2 P2 ∧
  ∀ x dx q F H' hs r, Same H H' → H q = none → H F = none → H' x = some (.ins C dx (cfl q F)) → H' q = some (.lst ((trim r).map V.int)) → H' F = some (.lst ((needL hs (trim r)).map V.int)) →
    (∀ i : Nat, lawAt hs r (i : Int) = cnv (numAt F1 P1) (numAt F2 P2) i) → hs.length = F1.length + F2.length → r.length ≤ P1.length + P2.length → RowOk r → Q (.ref x) H'
theorem ok_Counted_rshift (T : Tx K w mg) : FnOk P w K mg base CX0 7 T.f_Counted_rshift T.d_Counted_rshift ["self", "other"] (sp_shr K T.C_Counted) := by
  refine T.F_Counted_rshift.ok sc_Counted_rshift (fun vs H Q E h => ?_) (fun cdv A outer s H vs Q E hr h => ?_)
  · obtain ⟨c, e, F1, P1, F2, P2, rfl, _⟩ := h
    rfl
  · obtain ⟨c, e, F1, P1, F2, P2, rfl, cn, en, ok1, ok2, k⟩ := h
    refine ⟨_,
    (pss_cons
      (ps_set (i := 2) sc_Counted_rshift.nd rfl (.inl rfl) (pe_op op_add (pe_prop (pv 0) T.cl_Counted T.pr_Counted_begin (ok_Counted_begin T) (hr.mono (by decide)) T.b_Counted_begin .nil pass0 (by rfl)) (pe_prop (pv 1) T.cl_Counted T.pr_Counted_begin (ok_Counted_begin T) (hr.mono (by decide)) T.b_Counted_begin .nil pass0 (by rfl))))
    (pss_cons
      (ps_set (i := 3) sc_Counted_rshift.nd rfl (.inl rfl) (pe_call (ok_one_after_other T) hr (by rfl) T.g_one_after_other T.F_one_after_other.kp T.b_one_after_other .nil pass0 (pa_cons (pv 0) (pa_cons (pv 1) (pa_cons (pe_op op_add (pe_op op_add (pv 2) (pe_callB call_len_seq (by rfl) T.m_len (by decide +kernel) (pa_cons (pe_prop (pv 0) T.cl_Counted T.pr_Counted_poly (ok_Counted_poly T) (hr.mono (by decide)) T.b_Counted_poly .nil pass0 (by rfl)) pa_nil))) (pe_callB call_len_seq (by rfl) T.m_len (by decide +kernel) (pa_cons (pe_prop (pv 1) T.cl_Counted T.pr_Counted_poly (ok_Counted_poly T) (hr.mono (by decide)) T.b_Counted_poly .nil pass0 (by rfl)) pa_nil))) pa_nil)))))
    (pss_one
      (ps_ret (pe_make T.mk_Counted (ok_Counted_init T) (hr.mono (by decide)) (by rfl) T.mg_Counted T.b_Counted_init .nil pass0 (pa_cons (pe_slice sl_list (pv 3) po_none (po_some (pv 2))) (pa_cons (pe_call (ok_polynomial_through T) (hr.mono (by decide)) (by rfl) T.g_polynomial_through T.F_polynomial_through.kp T.b_polynomial_through .nil pass0 (pa_cons (pv 2) (pa_cons (pe_slice sl_list (pv 3) (po_some (pv 2)) po_none) pa_nil))) pa_nil))))))), ?_⟩
    obtain ⟨dx, p, f, hc, hp, hf⟩ := id cn
    obtain ⟨dy, p', f', he, hp', hf'⟩ := id en
    have l1 := ok1.fl
    have l2 := ok2.fl
    have l3 := ok1.rl
    have l4 := ok2.rl
    obtain ⟨G, hG, eG⟩ := cnv_pol (A := numAt F1 P1) (B := numAt F2 P2) (x := F1.length) (y := F2.length) (Dk_pol0 P1) (Dk_pol0 P2) (fun i hi => by unfold numAt; rw [if_neg (by omega)]) (fun i hi => by unfold numAt; rw [if_neg (by omega)])
    have sz : ∀ i, i < 400 → (cnv (numAt F1 P1) (numAt F2 P2) i).natAbs < 2 ^ (2000 + 1 + 2000 + 10) := fun i hi => cnv_size (m := 400) (fun i hi => at_size ok1.f ok1.r l3 hi) (fun i hi => at_size ok2.f ok2.r l4 hi) (by decide) hi
    have mok := ok1.mok ok2 (m := F1.length + F2.length + P1.length + P2.length) (by omega)
    generalize hN : cnv (numAt F1 P1) (numAt F2 P2) = N at k sz eG
    refine ⟨_, rfl, c, dx, _, rfl, hc, c, dx, p, f, _, rfl, hc, hf, _, rfl, e, dy, _, rfl, he, e, dy, p', f', _, rfl, he, hf', _, _, rfl, rfl, ?_⟩
    rw [List.length_map, List.length_map]
    refine ⟨_, rfl, _, rfl, _, rfl, _, rfl, c, dx, _, rfl, hc, c, dx, p, f, p, _, rfl, hc, cfl_p p f, hp, fun U hU => ?_⟩
    have s1 := same_upd (o := .lst (P1.map V.int)) hU
    refine ⟨U, _, rfl, .inl (.of upd_same), _, _, rfl, rfl, _, rfl, e, dy, _, rfl, s1 _ _ he, e, dy, p', f', p', _, rfl, s1 _ _ he, cfl_p p' f', s1 _ _ hp', fun U2 hU2 => ?_⟩
    have s2 := s1.trans (same_upd (o := .lst (P2.map V.int)) hU2)
    refine ⟨U2, _, rfl, .inl (.of upd_same), _, _, rfl, rfl, c, e, F1, P1, F2, P2, F1.length + F2.length + P1.length + P2.length, ?_, cn.same s2, en.same s2, ok1.row, ok2.row, by omega, mok, fun M H3 fM s3 eM => ?_⟩
    · rw [List.length_map, List.length_map]; rfl
    rw [hN] at eM
    have s03 := s2.trans s3
    generalize hH : upd (upd H U (.lst (P1.map V.int))) U2 (.lst (P2.map V.int)) = H2 at *
    refine ⟨_, rfl, _, rfl, _, rfl, M, _, rfl, .of eM, fun A1 hA1 => ?_⟩
    have lN := nN_len N (F1.length + F2.length + P1.length + P2.length)
    rw [show ((F1.length : Int) + (F2.length : Int)) = ((F1.length + F2.length : Nat) : Int) from rfl, map_take_int, nN_take (by omega)]
    have s4 := same_upd (o := .lst ((nN N (F1.length + F2.length)).map V.int)) hA1
    have eA := upd_same (H := H3) (a := A1) (o := .lst ((nN N (F1.length + F2.length)).map V.int))
    generalize upd H3 A1 (.lst ((nN N (F1.length + F2.length)).map V.int)) = H4 at s4 eA ⊢
    refine ⟨_, rfl, _, rfl, _, rfl, _, rfl, M, _, rfl, .of (s4 _ _ eM), fun A2 hA2 => ?_⟩
    have ed : cutV ((nN N (F1.length + F2.length + P1.length + P2.length)).map V.int) (some ((F1.length + F2.length : Nat) : Int)) none = (vals (P1.length + P2.length) G ((F1.length + F2.length : Nat) : Int)).map V.int := by
      rw [show cutV ((nN N (F1.length + F2.length + P1.length + P2.length)).map V.int) (some ((F1.length + F2.length : Nat) : Int)) none = ((nN N (F1.length + F2.length + P1.length + P2.length)).drop (F1.length + F2.length)).map V.int from (cut_drop _ (F1.length + F2.length)).trans List.map_drop.symm, nN_drop (by omega),
        show F1.length + F2.length + P1.length + P2.length - (F1.length + F2.length) = P1.length + P2.length by omega]
      congr 1
      exact nN_eq fun i _ => by rw [eG _ (by omega)]; rfl
    rw [show ((F1.length : Int) + (F2.length : Int)) = ((F1.length + F2.length : Nat) : Int) from rfl, ed]
    have s5 := same_upd (o := .lst ((vals (P1.length + P2.length) G ((F1.length + F2.length : Nat) : Int)).map V.int)) hA2
    refine ⟨F1.length + F2.length, A2, _, rfl, upd_same, by rw [vals_length]; omega, by omega, fun R H5 fR s6 eR => ?_⟩
    have s06 := ((s03.trans s4).trans s5).trans s6
    have eA5 := s6 _ _ (s5 _ _ eA)
    have gp : ∀ n, pol (thru (F1.length + F2.length) (vals (P1.length + P2.length) G ((F1.length + F2.length : Nat) : Int))) n = G n := fun n => pol_thru hG n
    have gl := thru_length (F1.length + F2.length) (vals (P1.length + P2.length) G ((F1.length + F2.length : Nat) : Int))
    rw [vals_length] at gl
    have gz : Sz 20000 (thru (F1.length + F2.length) (vals (P1.length + P2.length) G ((F1.length + F2.length : Nat) : Int))) := by
      refine Sz.mono (thru_size (B := 2000 + 1 + 2000 + 10) (vals_size fun i hi => ?_)) ?_
      · rw [show ((F1.length + F2.length : Nat) : Int) + (i : Int) = ((F1.length + F2.length + i : Nat) : Int) by omega, ← eG _ (by omega)]
        exact sz _ (by omega)
      · rw [vals_length]
        have h1 : P1.length + P2.length ≤ 120 := by omega
        have h2 : (F1.length + F2.length) * (P1.length + P2.length) ≤ 120 * 120 := Nat.mul_le_mul (by omega) h1
        omega
    generalize thru (F1.length + F2.length) (vals (P1.length + P2.length) G ((F1.length + F2.length : Nat) : Int)) = r at *
    have rok : RowOk r := gz.rowOk (by decide) (by decide) (by omega)
    have law : ∀ i : Nat, lawAt (nN N (F1.length + F2.length)) r (i : Int) = N i := fun i => by
      unfold lawAt
      rw [nN_len, Int.toNat_natCast]
      split
      · rename_i c
        rw [List.getD_eq_getElem?_getD, nN_get (by omega)]; rfl
      · rw [gp, eG _ (by omega)]
    refine mkC eA5 eR (by rw [nN_len]; omega) rok fun x dz cp cf H6 s7 fcp fcf ex ecp ecf => ?_
    exact k x dz cp cf H6 _ r (s06.trans s7) (fresh_of s06 fcp) (fresh_of s06 fcf) ex ecp ecf law (nN_len _ _) gl rok
/-! ### what a Counted tells -/
theorem all_true (n : Nat) : (List.replicate n true).all id = true := by
  induction n with
  | zero => rfl
  | succ n ih => rw [List.replicate_succ, List.all_cons, ih]; rfl
theorem trim_idem (r : List Int) : trim (trim r) = trim r := trm_trim (trim_trm _ r rfl)
theorem need_len (hs r : List Int) : (needL hs (trim r)).length = lbg hs (pol r) hs.length := by
  have hle := lbg_le hs (pol r) hs.length
  rw [need_trim]
  unfold needL
  rw [List.length_take]; omega
theorem lbg_ne {h : List Int} {f : Int → Int} : ∀ {k i : Nat}, lbg h f k = i + 1 → h.getD i 0 ≠ f (i : Int)
  | 0, _, e => by cases e
  | k + 1, i, e => by
    unfold lbg at e
    by_cases c : h.getD k 0 = f (k : Int)
    · rw [if_pos c] at e
      exact lbg_ne e
    · rw [if_neg c] at e
      obtain rfl : k = i := by omega
      exact c
theorem eqvAll_ints : ∀ r s : List Int, PyData.eqvAll (r.map PyData.int) (s.map PyData.int) = decide (r = s)
  | [], [] => by simp [PyData.eqvAll]
  | [], _ :: _ => by simp [PyData.eqvAll]
  | _ :: _, [] => by simp [PyData.eqvAll]
  | x :: r, y :: s => by
    rw [List.map_cons, List.map_cons]
    show (x == y && PyData.eqvAll (r.map PyData.int) (s.map PyData.int)) = decide (x :: r = y :: s)
    rw [eqvAll_ints r s]
    by_cases c : x = y
    · by_cases d : r = s
      · simp [c, d]
      · simp [c, d]
    · simp [c]
theorem eqv_ints (r s : List Int) : PyData.eqv (.list (r.map PyData.int)) (.list (s.map PyData.int)) = decide (r = s) := eqvAll_ints r s
theorem cut_last (R : List Int) (h : Trm R) : ∃ l : List Int, cutV (R.map V.int) (some (-1)) none = l.map V.int ∧ l ≠ [0] := by
  by_cases e : R = []
  · subst e
    exact ⟨[], rfl, by decide⟩
  · obtain ⟨s, a, rfl⟩ := snoc_of e
    refine ⟨[a], ?_, fun z => h s a rfl (by injection z)⟩
    have e1 : HT.sIx ((s ++ [a]).map V.int).length 0 (some (-1)) = s.length := by
      unfold HT.sIx
      rw [List.length_map, List.length_append]
      simp
      omega
    unfold cutV
    rw [e1, HT.sIx_none, List.map_append, List.drop_left' (by rw [List.length_map])]
    rw [List.length_append, List.length_map]
    show ([V.int a]).take (s.length + 1 - s.length) = [V.int a]
    rw [Nat.add_sub_cancel_left]; rfl
/-- what is told: the first numbers, and the row from there on -/
theorem told_take (hs r : List Int) {m : Nat} (hm : hs.length ≤ m) : needL hs (trim r) = (nN (tld hs r) m).take (needL hs (trim r)).length := by
  rw [need_len]
  have hle := lbg_le hs (pol r) hs.length
  rw [tld_split hm, List.take_append_of_le_length (by omega), need_trim]; rfl
theorem told_at (hs r : List Int) {i : Nat} (hi : (needL hs (trim r)).length ≤ i) : tld hs r i = pol (trim r) (i : Int) := by
  have := numAt_need hs r (i := (i : Int)) (by omega)
  unfold tld
  rw [← this]
  unfold numAt
  rw [if_neg (by omega)]
theorem told_ne (hs r : List Int) {i : Nat} (hi : (needL hs (trim r)).length = i + 1) : pol (trim r) (i : Int) ≠ tld hs r i := by
  rw [need_len] at hi
  have hle := lbg_le hs (pol r) hs.length
  have := lbg_ne hi
  unfold tld lawAt
  rw [if_pos (by omega), Int.toNat_natCast, pol_trimF]
  exact fun z => this z.symm
def sp_told (K : PySem.W.Frag) (C : Addr) : Sp := fun vs H Q _ => ∃ (c a : Addr) (hs r : List Int) (m t : Nat), vs = [.ref c, .ref a, .int (t : Int)] ∧ CnR C H c (needL hs (trim r)) (trim r) ∧ H a = some (.lst ((nN (tld hs r) m).map V.int)) ∧ RowOk r ∧ hs.length + t ≤ m ∧ r.length ≤ t ∧ m ≤ 400 ∧ ∀ H', Same H H' → Q (.bl true) H'
theorem ok_law_told_right (T : Tx K w mg) : FnOk P w K mg base CX0 4 T.f_law_told_right T.d_law_told_right ["counted", "numbers", "most"] (sp_told K T.C_Counted) := by
  refine T.F_law_told_right.ok sc_law_told_right (fun vs H Q E h => ?_) (fun cdv A outer s H vs Q E hr h => ?_)
  · obtain ⟨c, a, hs, r, m, t, rfl, _⟩ := h
    rfl
  · obtain ⟨c, a, hs, r, m, t, rfl, cn, ha, rok0, hm, hr0, m4, k⟩ := h
    refine ⟨_,
    (pss_cons
      (ps_set (i := 3) sc_law_told_right.nd rfl (.inr rfl) (pe_prop (pv 0) T.cl_Counted T.pr_Counted_poly (ok_Counted_poly T) (hr.mono (by decide)) T.b_Counted_poly .nil pass0 (by rfl)))
    (pss_cons
      (ps_set (i := 4) sc_law_told_right.nd rfl (.inl rfl) (pe_prop (pv 0) T.cl_Counted T.pr_Counted_begin (ok_Counted_begin T) (hr.mono (by decide)) T.b_Counted_begin .nil pass0 (by rfl)))
    (pss_cons
      (ps_set (i := 5) sc_law_told_right.nd rfl (.inl rfl) (pe_prop (pv 0) T.cl_Counted T.pr_Counted_firsts (ok_Counted_firsts T) (hr.mono (by decide)) T.b_Counted_firsts .nil pass0 (by rfl)))
    (pss_cons
      (ps_if (PW.pt (pw_or (pt_not (pt_val (pe_callB call_isi (by rfl) T.m_isinstance (by decide +kernel) (pa_cons (pv 3) (pa_cons (pe_bltn (v := .ty "list") (by rfl) T.m_list (by decide +kernel) rfl) pa_nil))))) (pw_or (pt_not (pt_val (pe_callB call_isi (by rfl) T.m_isinstance (by decide +kernel) (pa_cons (pv 5) (pa_cons (pe_bltn (v := .ty "list") (by rfl) T.m_list (by decide +kernel) rfl) pa_nil))))) (pw_or1 (pt_not (pt_val (pe_callB call_isi (by rfl) T.m_isinstance (by decide +kernel) (pa_cons (pv 4) (pa_cons (pe_bltn (v := .ty "int") (by rfl) T.m_int (by decide +kernel) rfl) pa_nil)))))))))
        (pss_one
          (ps_ret pe_bl))
        pss_nil)
    (pss_cons
      (ps_if (pt_not (pt_val (pe_callB (cr_all rfl) (by rfl) T.m_all (by decide +kernel) (pa_cons (pe_lc (own := [("entry", 6)]) (g := gName 6) rfl sc_law_told_right.nd (pi_list (pe_op op_cat (pe_op op_cat (pv 3) (pv 5)) (pe_lst (pa_cons (pv 4) pa_nil)))) (blkOk_by (N := ["counted", "numbers", "most", "row", "begin", "heads", "entry", "at"]) (sc := defScope s_law_told_right) (own := [("entry", 6)]) (by decide +kernel)) (fun _ _ _ _ _ => (pg_name (i := 6) sc_law_told_right.nd rfl (.inl rfl))) (fun _ _ _ _ _ => pts_nil) (fun _ _ _ _ _ => (pe_and (pe_callB (id := "isinstance") (r := rIsi K) call_isi (by rfl) T.m_isinstance (by decide +kernel) (pa_cons (pv 6) (pa_cons (pe_bltn (v := .ty "int") (by rfl) T.m_int (by decide +kernel) rfl) pa_nil))) (pe_one (pe_not (pe_callB (id := "isinstance") (r := rIsi K) call_isi (by rfl) T.m_isinstance (by decide +kernel) (pa_cons (pv 6) (pa_cons (pe_bltn (v := .ty "bool") (by rfl) T.m_bool (by decide +kernel) rfl) pa_nil)))))))) pa_nil))))
        (pss_one
          (ps_ret pe_bl))
        pss_nil)
    (pss_cons
      (ps_if (PW.pt (pw_or (pt_cmpR op_gt (pe_callB call_len_seq (by rfl) T.m_len (by decide +kernel) (pa_cons (pv 3) pa_nil)) (pv 2) (nomark _)) (pw_or (pt_not (pt_chain op_le op_le pe_int (pv 4) (pe_op op_sub (pe_callB call_len_seq (by rfl) T.m_len (by decide +kernel) (pa_cons (pv 1) pa_nil)) (pv 2)))) (pw_or1 (pt_cmpR (op_eqD hr.units) (pe_slice sl_list (pv 3) (po_some (pe_un un_neg pe_int)) po_none) (pe_lst (pa_cons pe_int pa_nil)) (nomark _))))))
        (pss_one
          (ps_ret pe_bl))
        pss_nil)
    (pss_cons
      (ps_if (pt_cmpR (op_neD hr.units) (pv 5) (pe_slice sl_list (pv 1) po_none (po_some (pv 4))) (nomark _))
        (pss_one
          (ps_ret pe_bl))
        pss_nil)
    (C8.pss_cut
      (ps_if (PW.pt (pw_and (pt_cmpR op_gt (pv 4) pe_int (nomark _)) (pw_and1 (pt_cmpR op_eq (pe_call (ok_law_value T) (hr.mono (by decide)) (by rfl) T.g_law_value T.F_law_value.kp T.b_law_value .nil pass0 (pa_cons (pv 3) (pa_cons (pe_op op_sub (pv 4) pe_int) pa_nil))) (pe_ix ix_list (pv 1) (pe_op op_sub (pv 4) pe_int) (fun _ _ => rfl)) (nomark _)))))
        (pss_one
          (ps_ret pe_bl))
        pss_nil)
    (pss_one
      (ps_ret (pe_cmpR (op_eqD hr.units) (pe_lc (own := [("at", 7)]) (g := gName 7) rfl sc_law_told_right.nd (pi_range2 (by rfl) T.m_range (pa_cons (pv 4) (pa_cons (pe_callB call_len_seq (by rfl) T.m_len (by decide +kernel) (pa_cons (pv 1) pa_nil)) pa_nil))) (blkOk_by (N := ["counted", "numbers", "most", "row", "begin", "heads", "entry", "at"]) (sc := defScope s_law_told_right) (own := [("at", 7)]) (by decide +kernel)) (fun _ _ _ _ _ => (pg_name (i := 7) sc_law_told_right.nd rfl (.inl rfl))) (fun _ _ _ _ _ => pts_nil) (fun _ _ _ _ _ => (pe_call (ok_law_value T) (hr.mono (by decide)) (by rfl) T.g_law_value T.F_law_value.kp T.b_law_value .nil pass0 (pa_cons (pv 3) (pa_cons (pv 7) pa_nil))))) (pe_slice sl_list (pv 1) (po_some (pv 4)) po_none) (nomark _)))))))))))), ?_⟩
    have rok := rok0.trim
    have tl := trim_length r
    have hn := need_len hs r
    have hle := lbg_le hs (pol r) hs.length
    have tk := told_take hs r (m := m) (by omega)
    have ta := fun i => told_at hs r (i := i)
    have tn := fun i => told_ne hs r (i := i)
    have tt : Trm (trim r) := trim_trm _ r rfl
    have bl : (needL hs (trim r)).length ≤ hs.length := by omega
    clear hn hle rok0
    generalize tld hs r = N at *
    generalize needL hs (trim r) = B at *
    generalize trim r = R at *
    obtain ⟨dx, p, f, hc, hp, hf⟩ := id cn
    have lN := nN_len N m
    refine ⟨_, rfl, c, dx, _, rfl, hc, c, dx, p, f, p, _, rfl, hc, cfl_p p f, hp, fun U hU => ?_⟩
    have s1 := same_upd (o := .lst (R.map V.int)) hU
    have eU := upd_same (H := H) (a := U) (o := .lst (R.map V.int))
    generalize upd H U (.lst (R.map V.int)) = H1 at s1 eU ⊢
    refine ⟨_, rfl, c, dx, _, rfl, s1 _ _ hc, c, dx, p, f, _, rfl, s1 _ _ hc, s1 _ _ hf, ?_⟩
    refine ⟨_, rfl, c, dx, _, rfl, s1 _ _ hc, c, dx, p, f, f, _, rfl, s1 _ _ hc, cfl_f p f, s1 _ _ hf, fun V1 hV => ?_⟩
    have s2 := s1.trans (same_upd (o := .lst (B.map V.int)) hV)
    have eU2 := same_upd (o := .lst (B.map V.int)) hV _ _ eU
    have eV := upd_same (H := H1) (a := V1) (o := .lst (B.map V.int))
    generalize upd H1 V1 (.lst (B.map V.int)) = H2 at s2 eU2 eV ⊢
    rw [List.length_map]
    refine ⟨_, rfl, _, _, _, _, true, rfl, .ty "list", .base (.lst eU2), kit_ty (by decide +kernel), _, rfl, ?_⟩
    refine ⟨_, rfl, _, _, _, _, true, rfl, .ty "list", .base (.lst eV), kit_ty (by decide +kernel), _, rfl, ?_⟩
    refine ⟨_, rfl, _, _, _, _, true, rfl, .ty "int", .base (.int _), kit_ty (by decide +kernel), _, rfl, ?_⟩
    refine ⟨_, rfl, _, rfl, U, V1, _, _, rfl, rfl, eU2, eV, ?_, fun X hX => ?_⟩
    · rw [List.length_map, List.length_map]; exact Nat.le_of_lt (small1000 (by omega))
    rw [← List.map_append]
    refine ⟨_, rfl, (by show 1 ≤ sizeLine; decide), fun L hL => ?_⟩
    have s3 := (s2.trans (same_upd (o := .lst ((R ++ B).map V.int)) hX)).trans (same_upd (o := .lst [.int (B.length : Int)]) hL)
    have eX := same_upd (o := .lst [.int (B.length : Int)]) hL _ _ (upd_same (H := H2) (a := X) (o := .lst ((R ++ B).map V.int)))
    have eU3 := same_upd (o := .lst [.int (B.length : Int)]) hL _ _ (same_upd (o := .lst ((R ++ B).map V.int)) hX _ _ eU2)
    have eV3 := same_upd (o := .lst [.int (B.length : Int)]) hL _ _ (same_upd (o := .lst ((R ++ B).map V.int)) hX _ _ eV)
    refine ⟨X, L, _, _, rfl, rfl, eX, upd_same, ?_, fun Y hY => ?_⟩
    · rw [List.length_map, List.length_append]
      show _ + 1 ≤ sizeLine
      exact Nat.le_of_lt (small1000 (by omega))
    rw [show (R ++ B).map V.int ++ [V.int (B.length : Int)] = (R ++ B ++ [(B.length : Int)]).map V.int by rw [List.map_append (l₁ := R ++ B)]; rfl]
    have ln : (R ++ B ++ [(B.length : Int)]).length ≤ 900 := by
      rw [List.length_append, List.length_append]
      show _ + 1 ≤ 900
      omega
    generalize R ++ B ++ [(B.length : Int)] = Es at ln hY ⊢
    have s4 := s3.trans (same_upd (o := .lst (Es.map V.int)) hY)
    have eU4 := same_upd (o := .lst (Es.map V.int)) hY _ _ eU3
    have eV4 := same_upd (o := .lst (Es.map V.int)) hY _ _ eV3
    have eY := upd_same (H := upd (upd H2 X (.lst ((R ++ B).map V.int))) L (.lst [.int (B.length : Int)])) (a := Y) (o := .lst (Es.map V.int))
    generalize upd (upd (upd H2 X (.lst ((R ++ B).map V.int))) L (.lst [.int (B.length : Int)])) Y (.lst (Es.map V.int)) = H3 at s4 eU4 eV4 eY ⊢
    refine ⟨Y, rfl, ⟨_, .of eY⟩, fun D hDn => ?_⟩
    refine lc_list (xs := Es.map V.int) (fun i H' => i ≤ Es.length ∧ H' D = some (.lst ((List.replicate i true).map V.bl)) ∧ Same H3 H') ⟨Nat.zero_le _, upd_same, same_upd hDn⟩ (fun i H' _ h => .of (h.2.2 _ _ eY)) ?_ ?_
    · rintro i v H4 hi ⟨il, eD, sm⟩
      have hil := (List.getElem?_eq_some_iff.mp hi).1
      rw [List.length_map] at hil
      rw [List.getElem?_map] at hi
      obtain ⟨z, _, rfl⟩ := Option.map_eq_some_iff.mp hi
      refine ⟨rfl, _, rfl, _, _, _, _, true, rfl, .ty "int", .base (.int z), kit_ty (by decide +kernel), _, rfl, ?_⟩
      refine ⟨_, rfl, _, _, _, _, false, rfl, .ty "bool", .base (.int z), kit_ty (by decide +kernel), _, rfl, (List.replicate i true).map V.bl, eD, ?_, hil, ?_, fun b o e => ?_⟩
      · rw [List.length_map, List.length_replicate]; exact small1000 (by omega)
      · rw [upd_same, List.replicate_succ', List.map_append]; rfl
      · rw [upd_ne (ne_of_none e hDn)]; exact sm b o e
    rintro H4 ⟨_, eD, sm⟩
    refine ⟨D, List.replicate (Es.map V.int).length true, rfl, .of eD, _, rfl, iteEq (all_true _) ?_⟩
    have s5 := s4.trans sm
    have eU5 := sm _ _ eU4
    have eV5 := sm _ _ eV4
    have ha5 := s5 _ _ ha
    clear s1 s2 s3 s4 eU eU2 eU3 eU4 eV eV3 eV4 eX
    -- the size of the row, the first number
    refine ⟨_, rfl, U, _, rfl, .inl (.of eU5), _, rfl, _, _, rfl, rfl, _, rfl, ite2 (fun c1 => absurd (of_decide_eq_true c1) ?_) (fun _ => ?_)⟩
    · rw [List.length_map]; omega
    refine ⟨_, rfl, _, _, rfl, rfl, _, rfl, ite2 (fun _ => ?_) (fun c1 => absurd (decide_eq_true (by omega)) c1)⟩
    refine ⟨_, rfl, a, _, rfl, .inl (.of ha5), _, rfl, _, _, rfl, rfl, _, _, rfl, rfl, _, rfl, iteEq (decide_eq_true ?_) ?_⟩
    · rw [List.length_map, lN]; omega
    obtain ⟨l, el, l0⟩ := cut_last R tt
    refine ⟨_, rfl, _, rfl, _, rfl, U, _, rfl, .of eU5, fun Z hZ => ?_⟩
    rw [el]
    refine ⟨(by show 1 ≤ sizeLine; decide), fun Y2 hY2 => ?_⟩
    refine ⟨.list (l.map PyData.int), .list ([(0 : Int)].map PyData.int), .lst (.of (same_upd hY2 _ _ upd_same)) dp_ints, .lst (.of upd_same) (dp_ints (ns := [0])), list_ok _, list_ok _, _, rfl, ?_⟩
    rw [eqv_ints, decide_eq_false l0]
    have s6 := (same_upd (o := .lst (l.map V.int)) hZ).trans (same_upd (o := .lst [.int 0]) hY2)
    generalize upd (upd H4 Z (.lst (l.map V.int))) Y2 (.lst [.int 0]) = H5 at s6 ⊢
    have eU6 := s6 _ _ eU5
    have eV6 := s6 _ _ eV5
    have ha6 := s6 _ _ ha5
    have s06 := s5.trans s6
    clear hZ hY2 Z Y2 s6 s5 eU5 eV5 ha5 sm eD
    -- the first numbers
    refine ⟨_, rfl, _, rfl, _, rfl, _, rfl, a, _, rfl, .of ha6, fun Z hZ => ?_⟩
    rw [map_take_int, ← tk]
    have s7 := same_upd (o := .lst (B.map V.int)) hZ
    refine ⟨.list (B.map PyData.int), .list (B.map PyData.int), .lst (.of (s7 _ _ eV6)) dp_ints, .lst (.of upd_same) dp_ints, list_ok _, list_ok _, _, rfl, iteEq (SeqAt.eqv_refl _ (SeqAt.canLay_of_shaped (list_ok _))) ?_⟩
    have s07 := s06.trans s7
    have eU7 := s7 _ _ eU6
    have ha7 := s7 _ _ ha6
    generalize upd H5 Z (.lst (B.map V.int)) = H6 at s07 eU7 ha7 ⊢
    clear hZ Z s7 s06 eU6 eV6 ha6
    refine ⟨fun σ' H' => Same H6 H' ∧ σ' = [some (.ref c), some (.ref a), some (.int (t : Int)), some (.ref U), some (.int (B.length : Int)), some (.ref V1), none, none], ⟨_, rfl, _, _, rfl, rfl, _, rfl, ite2 (fun c1 => ?_) (fun _ => ⟨Same.refl _, rfl⟩)⟩, ?_⟩
    · have c2 : (0 : Int) < (B.length : Int) := of_decide_eq_true c1
      obtain ⟨i, hi⟩ : ∃ i, B.length = i + 1 := ⟨B.length - 1, by omega⟩
      have ei : (B.length : Int) - 1 = (i : Int) := by omega
      refine ⟨_, rfl, _, rfl, _, _, rfl, rfl, U, R, (i : Int), (by show [V.ref U, V.int ((B.length : Int) - 1)] = _; rw [ei]), .of eU7, rok.small (by omega), fun H7 s8 => ?_⟩
      refine ⟨_, rfl, _, rfl, _, _, rfl, rfl, a, _, _, _, rfl, rfl, .of (s8 _ _ ha7), at_of (j := i) (by omega) (nN_at (by omega)), rfl, _, rfl, ite2 (fun c3 => absurd (V.int.inj (of_decide_eq_true c3)) (tn i hi)) (fun _ => ⟨s8, rfl⟩)⟩
    rintro σ H7 ⟨s8, rfl⟩
    have s08 := s07.trans s8
    have eU8 := s8 _ _ eU7
    have ha8 := s8 _ _ ha7
    refine ⟨_, rfl, _, rfl, a, _, rfl, .inl (.of ha8), _, _, rfl, ⟨by omega, by omega, by omega, by rw [List.length_map]; omega⟩, fun D2 hD2 => ?_⟩
    rw [List.length_map, lN]
    refine lc_range (lo := (B.length : Int)) (n := _) (fun i H' => Same H7 H' ∧ H' D2 = some (.lst ((nN (fun j => N (B.length + j)) i).map V.int))) ⟨same_upd hD2, upd_same⟩ ?_ ?_
    · rintro i H8 hi ⟨s9, e9⟩
      refine ⟨rfl, _, rfl, _, rfl, U, R, _, rfl, .of (s9 _ _ eU8), rok.small (by omega), fun H9 s10 => ⟨_, s10 _ _ e9, ?_, fun b o e => ?_, ?_⟩⟩
      · rw [List.length_map, nN_len]; exact small1000 (by omega)
      · rw [upd_ne (ne_of_none e hD2)]
        exact s10 b o (s9 b o e)
      · rw [upd_same, nN_succ, List.map_append, ta _ (Nat.le_add_right _ _), show ((B.length + i : Nat) : Int) = (B.length : Int) + (i : Int) by omega]; rfl
    rintro H8 ⟨s9, e9⟩
    rw [show ((m : Int) - (B.length : Int)).toNat = m - B.length by omega, ← nN_drop (by omega)] at e9
    refine ⟨_, rfl, _, rfl, _, rfl, a, _, rfl, .of (s9 _ _ ha8), fun Z hZ => ?_⟩
    rw [show cutV ((nN N m).map V.int) (some (B.length : Int)) none = ((nN N m).drop B.length).map V.int from (cut_drop _ B.length).trans List.map_drop.symm]
    have s11 := same_upd (o := .lst (((nN N m).drop B.length).map V.int)) hZ
    refine ⟨.list (((nN N m).drop B.length).map PyData.int), .list (((nN N m).drop B.length).map PyData.int), .lst (.of (s11 _ _ e9)) dp_ints, .lst (.of upd_same) dp_ints, list_ok _, list_ok _, ?_⟩
    rw [SeqAt.eqv_refl _ (SeqAt.canLay_of_shaped (list_ok _))]
    exact k _ ((s08.trans s9).trans s11)
/-! ### the law -/
/-- what is drawn: heads and row at u, and the Counted made of them at c -/
structure DK (C : Addr) (H : Hp) (d g u c p q : Addr) (hs r : List Int) : Prop where
  tup : H u = some (.tup [.ref p, .ref q])
  lh : Lat H d g p (hs.map V.int)
  lr : Lat H d g q (r.map V.int)
  cn : CnD C H d g c (needL hs (trim r)) (trim r)
  ok : NOk hs r
theorem NOk.need {hs r : List Int} (h : NOk hs r) : NOk (needL hs (trim r)) (trim r) := by
  refine ⟨fun a ha => h.f a ?_, trim_size h.r, ?_, Nat.le_trans (trim_length r) h.rl⟩
  · unfold needL at ha
    exact List.mem_of_mem_take ha
  · unfold needL
    rw [List.length_take]
    exact Nat.le_trans (Nat.min_le_right _ _) h.fl
theorem DK.keep {C : Addr} {H H' : Hp} {d g u c p q : Addr} {hs r : List Int} (h : DK C H d g u c p q hs r) (hD : Deck H d g) (k : Kd d g H H') : DK C H' d g u c p q hs r :=
  ⟨Kd.tk k hD _ _ h.tup, h.lh.keep k, h.lr.keep k, h.cn.keep hD k, h.ok⟩
theorem CnD.cr {C : Addr} {H : Hp} {d g c : Addr} {F R : List Int} (h : CnD C H d g c F R) : CnR C H c F R := by
  obtain ⟨dx, p, f, h1, h2, h3⟩ := h
  exact ⟨dx, p, f, h1, h2.at_, h3.at_⟩
theorem stp_eq {A A' : Int → Int} (h : ∀ i : Nat, A (i : Int) = A' (i : Int)) (k : Nat) : stp A k = stp A' k := by
  unfold stp
  by_cases z : k = 0
  · rw [if_pos z, if_pos z]; exact h 0
  · rw [if_neg z, if_neg z, h k, show (k : Int) - 1 = ((k - 1 : Nat) : Int) by omega, h (k - 1)]
theorem cnv_eq {A A' B B' : Int → Int} (hA : ∀ i : Nat, A (i : Int) = A' (i : Int)) (hB : ∀ i : Nat, B (i : Int) = B' (i : Int)) (n : Nat) : cnv A B n = cnv A' B' n :=
  sm_eq fun i hi => by rw [stp_eq hA, show (n : Int) - (i : Int) = ((n - i : Nat) : Int) by omega, hB]
theorem MOk.eq {A A' B B' : Nat → Int} {m : Nat} (h : MOk A B m) (hA : ∀ i, A i = A' i) (hB : ∀ i, B i = B' i) : MOk A' B' m := fun k j hk hj => by
  rw [← hA, ← hB]; exact h k j hk hj
/-- a Counted apart from the deck and from W -/
def CnW (C : Addr) (H : Hp) (d g W c : Addr) (F R : List Int) : Prop := ∃ dx p f, H c = some (.ins C dx (cfl p f)) ∧ Lat H d g p (R.map V.int) ∧ Lat H d g f (F.map V.int) ∧ p ≠ W ∧ f ≠ W
theorem CnW.d {C : Addr} {H : Hp} {d g W c : Addr} {F R : List Int} (h : CnW C H d g W c F R) : CnD C H d g c F R := by
  obtain ⟨dx, p, f, h1, h2, h3, _⟩ := h
  exact ⟨dx, p, f, h1, h2, h3⟩
theorem CnW.same {C : Addr} {H H' : Hp} {d g W c : Addr} {F R : List Int} (h : CnW C H d g W c F R) (s : Same H H') : CnW C H' d g W c F R := by
  obtain ⟨dx, p, f, h1, h2, h3, h4⟩ := h
  exact ⟨dx, p, f, s _ _ h1, h2.keep (Same.kd s), h3.keep (Same.kd s), h4⟩
theorem CnW.mut {C : Addr} {H : Hp} {d g W c : Addr} {F R : List Int} {xs : List V} {o : HO} (h : CnW C H d g W c F R) (hW : H W = some (.lst xs)) : CnW C (upd H W o) d g W c F R := by
  obtain ⟨dx, p, f, h1, h2, h3, h4, h5⟩ := h
  exact ⟨dx, p, f, by rw [upd_ne (ne_of h1 hW (by intro z; cases z))]; exact h1, ⟨by rw [upd_ne h4]; exact h2.at_, h2.nd, h2.ng⟩, ⟨by rw [upd_ne h5]; exact h3.at_, h3.nd, h3.ng⟩, h4, h5⟩
def sp_law (K : PySem.W.Frag) : Sp := fun vs H Q _ => ∃ (a : Addr) (ns : List Int), vs = [.ref a] ∧ SqL K H a (ns.map V.int) ∧ ns.length ≤ 63 ∧ ∀ H', Q (.bl true) H'
abbrev spLaw := sp_law
set_option maxHeartbeats 1600000 in
theorem ok_law (T : Tx K w mg) : FnOk P w K mg base CX0 9 T.f_law T.d_law ["script"] (sp_law K) := by
  refine T.F_law.ok sc_law (fun vs H Q E h => ?_) (fun cdv A outer s H vs Q E hr h => ?_)
  · obtain ⟨a, ns, rfl, _⟩ := h
    rfl
  · obtain ⟨a, ns, rfl, hS, hl, k⟩ := h
    refine ⟨_,
    (pss_cons
      (ps_set (i := 1) sc_law.nd rfl (.inl rfl) (pe_call (ok_law_deck T) (hr.mono (by decide)) (by rfl) T.g_law_deck T.F_law_deck.kp T.b_law_deck .nil pass0 (pa_cons (pv 0) pa_nil)))
    (pss_cons
      (ps_set (i := 2) sc_law.nd rfl (.inl rfl) (pe_ix ix_list (pe_lst (pa_cons pe_int (pa_cons pe_int (pa_cons pe_int (pa_cons pe_int (pa_cons pe_int (pa_cons pe_int (pa_cons pe_int (pa_cons pe_int pa_nil))))))))) (pe_call (ok_law_draw T) (hr.mono (by decide)) (by rfl) T.g_law_draw T.F_law_draw.kp T.b_law_draw .nil pass0 (pa_cons (pv 1) (pa_cons pe_int pa_nil))) (fun _ _ => rfl)))
    (pss_cons
      (ps_set (i := 3) sc_law.nd rfl (.inl rfl) (pe_lst (pa_cons (pe_call (ok_law_lists T) (hr.mono (by decide)) (by rfl) T.g_law_lists T.F_law_lists.kp T.b_law_lists .nil pass0 (pa_cons (pv 1) (pa_cons (pv 2) pa_nil))) (pa_cons (pe_call (ok_law_lists T) (hr.mono (by decide)) (by rfl) T.g_law_lists T.F_law_lists.kp T.b_law_lists .nil pass0 (pa_cons (pv 1) (pa_cons (pv 2) pa_nil))) pa_nil))))
    (pss_cons
      (ps_setLc (i := 4) (own := [("heads", 13), ("row", 14)]) (g := gTup K 2 (gCons (gName 13) (gCons (gName 14) gNil))) rfl sc_law.nd rfl rfl (sw_true rfl rfl rfl (by decide +kernel)) (pi_list (pv 3)) (blkOk_by (N := ["script", "deck", "most", "data", "made", "one", "two", "size", "many", "left", "right", "counted", "due", "heads", "row", "at"]) (sc := defScope s_law) (own := [("heads", 13), ("row", 14)]) (by decide +kernel)) (fun _ _ _ _ _ => (pg_tupK (K := K) rfl (by rfl) (pgs_cons (pg_name (i := 13) sc_law.nd rfl (.inl rfl)) (pgs_cons (pg_name (i := 14) sc_law.nd rfl (.inl rfl)) pgs_nil)))) (fun _ _ _ _ _ => pts_nil) (fun _ _ _ _ _ => (pe_make T.mk_Counted (ok_Counted_init T) (hr.mono (by decide)) (by rfl) T.mg_Counted T.b_Counted_init .nil pass0 (pa_cons (pe_callTy (T := "list") (r := rList K) call_list_of (by rfl) T.m_list (by decide +kernel) (pa_cons (pv 13) pa_nil)) (pa_cons (pe_callTy (T := "list") (r := rList K) call_list_of (by rfl) T.m_list (by decide +kernel) (pa_cons (pv 14) pa_nil)) pa_nil)))))
    (pss_cons
      (ps_for PassesOwn.never rfl (pi_list (pe_lst (pa_cons (pe_tup (pa_cons pe_int (pa_cons pe_int pa_nil))) (pa_cons (pe_tup (pa_cons pe_int (pa_cons pe_int pa_nil))) (pa_cons (pe_tup (pa_cons pe_int (pa_cons pe_int pa_nil))) pa_nil))))) (pg_tup (by rfl) (pgs_cons (pg_name (i := 5) sc_law.nd rfl (.inl rfl)) (pgs_cons (pg_name (i := 6) sc_law.nd rfl (.inl rfl)) pgs_nil)))
        (pss_cons
          (ps_set (i := 7) sc_law.nd rfl (.inl rfl) (pe_op op_add (pe_op op_add (pe_callB call_len_seq (by rfl) T.m_len (by decide +kernel) (pa_cons (pe_ix ix_tup (pe_ix ix_list (pv 3) (pv 5) (fun _ _ => rfl)) pe_int (fun _ _ => rfl)) pa_nil)) (pe_callB call_len_seq (by rfl) T.m_len (by decide +kernel) (pa_cons (pe_ix ix_tup (pe_ix ix_list (pv 3) (pv 6) (fun _ _ => rfl)) pe_int (fun _ _ => rfl)) pa_nil))) pe_int))
        (pss_cons
          (ps_set (i := 8) sc_law.nd rfl (.inl rfl) (pe_op op_add (pe_op op_add (pe_op op_add (pe_callB call_len_seq (by rfl) T.m_len (by decide +kernel) (pa_cons (pe_ix ix_tup (pe_ix ix_list (pv 3) (pv 5) (fun _ _ => rfl)) pe_int (fun _ _ => rfl)) pa_nil)) (pe_callB call_len_seq (by rfl) T.m_len (by decide +kernel) (pa_cons (pe_ix ix_tup (pe_ix ix_list (pv 3) (pv 6) (fun _ _ => rfl)) pe_int (fun _ _ => rfl)) pa_nil))) pe_int) (pv 7)))
        (pss_cons
          (ps_set (i := 9) sc_law.nd rfl (.inl rfl) (pe_call (ok_law_numbers T) (hr.mono (by decide)) (by rfl) T.g_law_numbers T.F_law_numbers.kp T.b_law_numbers .nil pass0 (pa_cons (pe_ix ix_tup (pe_ix ix_list (pv 3) (pv 5) (fun _ _ => rfl)) pe_int (fun _ _ => rfl)) (pa_cons (pe_ix ix_tup (pe_ix ix_list (pv 3) (pv 5) (fun _ _ => rfl)) pe_int (fun _ _ => rfl)) (pa_cons (pv 8) pa_nil)))))
        (pss_cons
          (ps_set (i := 10) sc_law.nd rfl (.inl rfl) (pe_call (ok_law_numbers T) (hr.mono (by decide)) (by rfl) T.g_law_numbers T.F_law_numbers.kp T.b_law_numbers .nil pass0 (pa_cons (pe_ix ix_tup (pe_ix ix_list (pv 3) (pv 6) (fun _ _ => rfl)) pe_int (fun _ _ => rfl)) (pa_cons (pe_ix ix_tup (pe_ix ix_list (pv 3) (pv 6) (fun _ _ => rfl)) pe_int (fun _ _ => rfl)) (pa_cons (pv 8) pa_nil)))))
        (pss_cons
          (ps_set (i := 11) sc_law.nd rfl (.inr rfl) (pe_op (op_RShiftOwn T.sf_Counted T.me_Counted_rshift (ok_Counted_rshift T) (hr.mono (by decide)) T.b_Counted_rshift) (pe_ix ix_list (pv 4) (pv 5) (fun _ _ => rfl)) (pe_ix ix_list (pv 4) (pv 6) (fun _ _ => rfl))))
        (pss_cons
          (ps_set (i := 12) sc_law.nd rfl (.inl rfl) (pe_call (ok_law_followed T) (hr.mono (by decide)) (by rfl) T.g_law_followed T.F_law_followed.kp T.b_law_followed .nil pass0 (pa_cons (pv 9) (pa_cons (pv 10) pa_nil))))
        (pss_cons
          (ps_if (PW.pt (pw_or (pt_not (pt_val (pe_callB call_isi (by rfl) T.m_isinstance (by decide +kernel) (pa_cons (pv 11) (pa_cons (pe_glob (v := .ref T.C_Counted) (by rfl) T.mg_Counted rfl) pa_nil))))) (pw_or1 (pt_not (pt_val (pe_call (ok_law_told_right T) (hr.mono (by decide)) (by rfl) T.g_law_told_right T.F_law_told_right.kp T.b_law_told_right .nil pass0 (pa_cons (pv 11) (pa_cons (pv 12) (pa_cons (pv 7) pa_nil)))))))))
            (pss_one
              (ps_ret pe_bl))
            pss_nil)
        (pss_cons
          (ps_if (PW.pt (pw_or (pt_cmpR (op_neD hr.units) (pe_lc (own := [("at", 15)]) (g := gName 15) rfl sc_law.nd (pi_range1 (by rfl) T.m_range (pa_cons (pv 8) pa_nil)) (blkOk_by (N := ["script", "deck", "most", "data", "made", "one", "two", "size", "many", "left", "right", "counted", "due", "heads", "row", "at"]) (sc := defScope s_law) (own := [("at", 15)]) (by decide +kernel)) (fun _ _ _ _ _ => (pg_name (i := 15) sc_law.nd rfl (.inl rfl))) (fun _ _ _ _ _ => pts_nil) (fun _ _ _ _ _ => (pe_ixOwn T.me_Counted_getitem T.fn_Counted_getitem (ok_Counted_getitem T) (hr.mono (by decide)) T.b_Counted_getitem (fun σ => passLS σ) (pv 11) (pv 15)))) (pv 12) (nomark _)) (pw_or1 (pt_not (pt_val (pe_call (ok_law_refused T) (hr.mono (by decide)) (by rfl) T.g_law_refused T.F_law_refused.kp T.b_law_refused .nil pass0 (pa_cons (pv 11) (pa_cons (pe_op op_sub (pe_un un_neg pe_int) (pe_call (ok_law_draw T) (hr.mono (by decide)) (by rfl) T.g_law_draw T.F_law_draw.kp T.b_law_draw .nil pass0 (pa_cons (pv 1) (pa_cons pe_int pa_nil)))) pa_nil))))))))
            (pss_one
              (ps_ret pe_bl))
            pss_nil)
        (pss_one
          (ps_if (PW.pt (pw_or (pt_not (pt_val (pe_call (ok_law_told_right T) (hr.mono (by decide)) (by rfl) T.g_law_told_right T.F_law_told_right.kp T.b_law_told_right .nil pass0 (pa_cons (pe_ix ix_list (pv 4) (pv 5) (fun _ _ => rfl)) (pa_cons (pv 9) (pa_cons (pv 7) pa_nil)))))) (pw_or1 (pt_not (pt_val (pe_call (ok_law_told_right T) (hr.mono (by decide)) (by rfl) T.g_law_told_right T.F_law_told_right.kp T.b_law_told_right .nil pass0 (pa_cons (pe_ix ix_list (pv 4) (pv 6) (fun _ _ => rfl)) (pa_cons (pv 10) (pa_cons (pv 7) pa_nil)))))))))
            (pss_one
              (ps_ret pe_bl))
            pss_nil)))))))))))
    (pss_one
      (ps_ret pe_bl))))))), ?_⟩
    refine ⟨_, rfl, a, ns, rfl, hS, hl, fun d g H1 s1 hD1 => ⟨(by show 8 ≤ sizeLine; decide), fun M hM => ?_⟩⟩
    have s2 := (Std.refl hD1).new (o := .lst ([3, 8, 3, 20, 3, 8, 3, 40].map V.int)) hM
    have dM := hD1.new hM
    refine ⟨_, rfl, d, g, 8, rfl, s2.dk, by decide, by decide +kernel, fun w0 H3 w00 w01 hD3 k3 => ?_⟩
    obtain ⟨mo, hm, gm⟩ := pickI (ms := [3, 8, 3, 20, 3, 8, 3, 40]) w00 w01
    have mo2 : 2 ≤ mo ∧ mo ≤ 60 := by
      simp only [List.mem_cons, List.not_mem_nil, or_false] at hm
      omega
    have s3 := s2.draw hD3 k3
    refine ⟨M, _, _, V.int mo, rfl, rfl, .of (k3 _ _ upd_same dM.1 dM.2), at_of (j := w0.toNat) (by omega) gm, ?_⟩
    clear gm hm dM s2 k3 hM w00 w01
    -- data
    refine ⟨_, rfl, _, rfl, d, g, mo, rfl, hD3, mo2.1, mo2.2, fun u1 p1 q1 hs1 r1 H4 s4 _ _ eu1 lp1 lq1 z1 z2 z3 z4 => ?_⟩
    refine ⟨_, rfl, _, rfl, d, g, mo, rfl, s4.dk, mo2.1, mo2.2, fun u2 p2 q2 hs2 r2 H5 s5 _ _ eu2 lp2 lq2 z5 z6 z7 z8 => ?_⟩
    refine ⟨(by show 2 ≤ sizeLine; decide), fun L hL => ?_⟩
    have eu1 := Kd.tk s5.kd s4.dk _ _ eu1
    have lp1 := lp1.keep s5.kd
    have lq1 := lq1.keep s5.kd
    have sL := same_upd (o := .lst [.ref u1, .ref u2]) hL
    have eL := upd_same (H := H5) (a := L) (o := .lst [.ref u1, .ref u2])
    have dL := s5.dk.new hL
    have hD6 := s5.dk.same sL
    have eu1 := sL _ _ eu1
    have eu2 := sL _ _ eu2
    have lp1 := lp1.keep (Same.kd sL)
    have lq1 := lq1.keep (Same.kd sL)
    have lp2 := lp2.keep (Same.kd sL)
    have lq2 := lq2.keep (Same.kd sL)
    have n1 : NOk hs1 r1 := ⟨z1, z2, z3, z4⟩
    have n2 : NOk hs2 r2 := ⟨z5, z6, z7, z8⟩
    generalize upd H5 L (.lst [.ref u1, .ref u2]) = H6 at *
    clear hL sL s5 s4 s3 hD3 z1 z2 z3 z4 z5 z6 z7 z8 hD1
    obtain ⟨hF, rF, us, eus, dat⟩ : ∃ (hF rF : Nat → List Int) (us : List V), us = [V.ref u1, V.ref u2] ∧ ∀ j, j < 2 → ∃ u p q, us[j]? = some (V.ref u) ∧ H6 u = some (.tup [.ref p, .ref q]) ∧ Lat H6 d g p ((hF j).map V.int) ∧ Lat H6 d g q ((rF j).map V.int) ∧ NOk (hF j) (rF j) := by
      refine ⟨fun j => if j = 0 then hs1 else hs2, fun j => if j = 0 then r1 else r2, _, rfl, fun j hj => ?_⟩
      by_cases z : j = 0
      · subst z
        exact ⟨u1, p1, q1, rfl, eu1, lp1, lq1, n1⟩
      · obtain rfl : j = 1 := by omega
        exact ⟨u2, p2, q2, rfl, eu2, lp2, lq2, n2⟩
    have ul : us.length = 2 := by rw [eus]; rfl
    rw [← eus] at eL
    clear eus
    -- made
    refine ⟨_, rfl, L, rfl, ⟨_, .of eL⟩, fun W hW => ?_⟩
    have dW := hD6.new hW
    refine lc_list (xs := us) (fun i H' => i ≤ 2 ∧ Same H6 H' ∧ ∃ acc : List V, H' W = some (.lst acc) ∧ acc.length = i ∧ ∀ j, j < i → ∃ c, acc[j]? = some (V.ref c) ∧ CnW T.C_Counted H' d g W c (needL (hF j) (trim (rF j))) (trim (rF j))) ⟨Nat.zero_le _, same_upd hW, [], upd_same, rfl, fun j hj => absurd hj (Nat.not_lt_zero _)⟩ (fun i H' _ h => .of (h.2.1 _ _ eL)) ?_ ?_
    · rintro i v H7 hi ⟨_, s7, acc, eW, al, hc⟩
      have hi2 : i < 2 := by
        have := (List.getElem?_eq_some_iff.mp hi).1
        omega
      obtain ⟨u, p, q, gu, eu, lp, lq, nk⟩ := dat i hi2
      obtain rfl : V.ref u = v := Option.some.inj (gu.symm.trans hi)
      refine ⟨u, _, rfl, .of (s7 _ _ eu), rfl, _, _, rfl, _, _, rfl, rfl, rfl, ?_⟩
      refine ⟨_, rfl, p, _, rfl, .inl (.of (s7 _ _ lp.at_)), fun G1 hG1 => ⟨_, rfl, q, _, rfl, .inl (.of (same_upd hG1 _ _ (s7 _ _ lq.at_))), fun G2 hG2 => ?_⟩⟩
      have sa := same_upd (o := .lst ((hF i).map V.int)) hG1
      have sb := same_upd (o := .lst ((rF i).map V.int)) hG2
      refine mkC (sb _ _ upd_same) upd_same (by have := nk.fl; omega) nk.row fun x dx cp cf H8 s8 fcp fcf ex ecp ecf => ?_
      have s78 := (sa.trans sb).trans s8
      have eW8 := s78 _ _ eW
      have cpW : cp ≠ W := fun z => by rw [z, (sa.trans sb) _ _ eW] at fcp; cases fcp
      have cfW : cf ≠ W := fun z => by rw [z, (sa.trans sb) _ _ eW] at fcf; cases fcf
      have d7 := hD6.same s7
      have cx : CnW T.C_Counted H8 d g W x (needL (hF i) (trim (rF i))) (trim (rF i)) := ⟨dx, cp, cf, ex, ⟨ecp, (d7.new (fresh_of (sa.trans sb) fcp)).1, (d7.new (fresh_of (sa.trans sb) fcp)).2⟩, ⟨ecf, (d7.new (fresh_of (sa.trans sb) fcf)).1, (d7.new (fresh_of (sa.trans sb) fcf)).2⟩, cpW, cfW⟩
      refine ⟨acc, eW8, ?_, by omega, fun b o e => ?_, acc ++ [V.ref x], upd_same, by rw [List.length_append, al]; rfl, fun j hj => ?_⟩
      · exact small1000 (by omega)
      · rw [upd_ne (ne_of_none e hW)]
        exact s78 _ _ (s7 b o e)
      · by_cases z : j < i
        · obtain ⟨c, g1, g2⟩ := hc j z
          exact ⟨c, by rw [List.getElem?_append_left (by omega)]; exact g1, (g2.same s78).mut eW8⟩
        · obtain rfl : j = i := by omega
          refine ⟨x, ?_, cx.mut eW8⟩
          rw [← al, List.getElem?_append_right (Nat.le_refl _), Nat.sub_self]; rfl
    rintro H7 ⟨_, s7, cs, eW, cl, hc⟩
    rw [ul] at cl hc
    have hD7 := hD6.same s7
    have eL7 := s7 _ _ eL
    have pick : ∀ j, j < 2 → ∃ u c p q, us[j]? = some (V.ref u) ∧ cs[j]? = some (V.ref c) ∧ DK T.C_Counted H7 d g u c p q (hF j) (rF j) := fun j hj => by
      obtain ⟨u, p, q, g1, g2, g3, g4, g5⟩ := dat j hj
      obtain ⟨c, g6, g7⟩ := hc j hj
      exact ⟨u, c, p, q, g1, g6, s7 _ _ g2, g3.keep (Same.kd s7), g4.keep (Same.kd s7), g7.d, g5⟩
    clear dat hc s7 eL hW hD6 cl ul
    -- the pairs
    refine ⟨(by show 2 ≤ sizeLine; decide), fun t1 h1 => ⟨(by show 2 ≤ sizeLine; decide), fun t2 h2 => ⟨(by show 2 ≤ sizeLine; decide), fun t3 h3 => ⟨(by show 3 ≤ sizeLine; decide), fun B hB => ?_⟩⟩⟩⟩
    have sa := same_upd (o := .tup [.int 0, .int 1]) h1
    have sb := same_upd (o := .tup [.int 1, .int 0]) h2
    have sc := same_upd (o := .tup [.int 0, .int 0]) h3
    have sd := same_upd (o := .lst [.ref t1, .ref t2, .ref t3]) hB
    have s8 := ((sa.trans sb).trans sc).trans sd
    have e1 := ((sb.trans sc).trans sd) _ _ (upd_same (H := H7) (a := t1) (o := .tup [.int 0, .int 1]))
    have e2 := (sc.trans sd) _ _ (upd_same (H := upd H7 t1 (.tup [.int 0, .int 1])) (a := t2) (o := .tup [.int 1, .int 0]))
    have e3 := sd _ _ (upd_same (H := upd (upd H7 t1 (.tup [.int 0, .int 1])) t2 (.tup [.int 1, .int 0])) (a := t3) (o := .tup [.int 0, .int 0]))
    have eB := upd_same (H := upd (upd (upd H7 t1 (.tup [.int 0, .int 1])) t2 (.tup [.int 1, .int 0])) t3 (.tup [.int 0, .int 0])) (a := B) (o := .lst [.ref t1, .ref t2, .ref t3])
    have dB := (hD7.same ((sa.trans sb).trans sc)).new hB
    have hD8 := hD7.same s8
    have eL8 := s8 _ _ eL7
    have eW8 := s8 _ _ eW
    generalize upd (upd (upd (upd H7 t1 (.tup [.int 0, .int 1])) t2 (.tup [.int 1, .int 0])) t3 (.tup [.int 0, .int 0])) B (.lst [.ref t1, .ref t2, .ref t3]) = H8 at *
    have pick8 : ∀ j, j < 2 → ∃ u c p q, us[j]? = some (V.ref u) ∧ cs[j]? = some (V.ref c) ∧ DK T.C_Counted H8 d g u c p q (hF j) (rF j) := fun j hj => by
      obtain ⟨u, c, p, q, g1, g2, g3⟩ := pick j hj
      exact ⟨u, c, p, q, g1, g2, g3.keep hD7 (Same.kd s8)⟩
    have prs : ∀ (j : Nat) v, ([V.ref t1, V.ref t2, V.ref t3] : List V)[j]? = some v → ∃ t a b, v = V.ref t ∧ H8 t = some (.tup [.int ((a : Nat) : Int), .int ((b : Nat) : Int)]) ∧ a < 2 ∧ b < 2 := fun j v hj => by
      have hm := List.mem_of_getElem? hj
      simp only [List.mem_cons, List.not_mem_nil, or_false] at hm
      rcases hm with rfl | rfl | rfl
      · exact ⟨t1, 0, 1, rfl, e1, by decide, by decide⟩
      · exact ⟨t2, 1, 0, rfl, e2, by decide, by decide⟩
      · exact ⟨t3, 0, 0, rfl, e3, by decide, by decide⟩
    clear e1 e2 e3 sa sb sc sd h1 h2 h3 hB pick eL7 eW s8 hD7
    refine ⟨B, rfl, ⟨_, .of eB⟩, for_list (xs := [V.ref t1, V.ref t2, V.ref t3]) (fun i σ H' => Std H8 H' d g ∧ ∃ x5 x6 x7 x8 x9 x10 x11 x12, σ = [some (.ref a), some (.ref d), some (.int mo), some (.ref L), some (.ref W), x5, x6, x7, x8, x9, x10, x11, x12, none, none, none]) ⟨Std.refl hD8, _, _, _, _, _, _, _, _, rfl⟩ (fun i σ H' _ h => .of (h.1.kd _ _ eB dB.1 dB.2)) ?_ ?_⟩
    · rintro i v σ H9 hi ⟨s9, x5, x6, x7, x8, x9, x10, x11, x12, rfl⟩
      obtain ⟨t, e, f, rfl, et, he, hf⟩ := prs i v hi
      obtain ⟨u, c, p, q, gu, gc, K1⟩ := pick8 e he
      obtain ⟨u', c', p', q', gu', gc', K2⟩ := pick8 f hf
      have K1 := K1.keep hD8 s9.kd
      have K2 := K2.keep hD8 s9.kd
      have et := Kd.tk s9.kd hD8 _ _ et
      have eL9 := s9.kd _ _ eL8 dL.1 dL.2
      have eW9 := s9.kd _ _ eW8 dW.1 dW.2
      generalize hF e = h at K1
      generalize rF e = r at K1
      generalize hF f = h' at K2
      generalize rF f = r' at K2
      refine ⟨t, _, rfl, .of et, rfl, _, _, rfl, _, _, rfl, rfl, ?_⟩
      refine ⟨_, rfl, _, rfl, L, _, _, _, rfl, rfl, .of eL9, at_of (j := e) rfl gu, u, _, _, _, rfl, rfl, .of K1.tup, atI_nat (j := 1) rfl, q, _, rfl, .inl (.of K1.lr.at_), ?_⟩
      refine ⟨_, rfl, _, rfl, L, _, _, _, rfl, rfl, .of eL9, at_of (j := f) rfl gu', u', _, _, _, rfl, rfl, .of K2.tup, atI_nat (j := 1) rfl, q', _, rfl, .inl (.of K2.lr.at_), _, _, rfl, rfl, _, _, rfl, rfl, ?_⟩
      rw [List.length_map, List.length_map]
      refine ⟨_, rfl, _, rfl, L, _, _, _, rfl, rfl, .of eL9, at_of (j := e) rfl gu, u, _, _, _, rfl, rfl, .of K1.tup, atI_nat (j := 0) rfl, p, _, rfl, .inl (.of K1.lh.at_), ?_⟩
      refine ⟨_, rfl, _, rfl, L, _, _, _, rfl, rfl, .of eL9, at_of (j := f) rfl gu', u', _, _, _, rfl, rfl, .of K2.tup, atI_nat (j := 0) rfl, p', _, rfl, .inl (.of K2.lh.at_), _, _, rfl, rfl, _, _, rfl, rfl, _, rfl, _, _, rfl, rfl, ?_⟩
      rw [List.length_map, List.length_map]
      have l1 := K1.ok.fl
      have l2 := K1.ok.rl
      have l3 := K2.ok.fl
      have l4 := K2.ok.rl
      have nn1 := K1.ok.need
      have nn2 := K2.ok.need
      -- left, right
      refine ⟨_, rfl, _, rfl, L, _, _, _, rfl, rfl, .of eL9, at_of (j := e) rfl gu, u, _, _, _, rfl, rfl, .of K1.tup, atI_nat (j := 0) rfl, _, rfl, _, rfl, L, _, _, _, rfl, rfl, .of eL9, at_of (j := e) rfl gu, u, _, _, _, rfl, rfl, .of K1.tup, atI_nat (j := 1) rfl, _, rfl, ?_⟩
      refine ⟨p, q, h, r, h.length + h'.length + 1 + (r.length + r'.length + 1), rfl, K1.lh.at_, K1.lr.at_, K1.ok.row, by omega, by omega, fun n1 H10 _ s10 en1 => ?_⟩
      have s10' := s9.same s10
      have eL10 := s10 _ _ eL9
      have eW10 := s10 _ _ eW9
      have K1 := K1.keep s9.dk (Same.kd s10)
      have K2 := K2.keep s9.dk (Same.kd s10)
      have dN1 : n1 ≠ d ∧ n1 ≠ g := s9.dk.new ‹_›
      refine ⟨_, rfl, _, rfl, L, _, _, _, rfl, rfl, .of eL10, at_of (j := f) rfl gu', u', _, _, _, rfl, rfl, .of K2.tup, atI_nat (j := 0) rfl, _, rfl, _, rfl, L, _, _, _, rfl, rfl, .of eL10, at_of (j := f) rfl gu', u', _, _, _, rfl, rfl, .of K2.tup, atI_nat (j := 1) rfl, _, rfl, ?_⟩
      refine ⟨p', q', h', r', h.length + h'.length + 1 + (r.length + r'.length + 1), rfl, K2.lh.at_, K2.lr.at_, K2.ok.row, by omega, by omega, fun n2 H11 _ s11 en2 => ?_⟩
      have s11' := s10'.same s11
      have eW11 := s11 _ _ eW10
      have K1 := K1.keep s10'.dk (Same.kd s11)
      have K2 := K2.keep s10'.dk (Same.kd s11)
      have dN2 : n2 ≠ d ∧ n2 ≠ g := s10'.dk.new ‹_›
      have en1 := s11 _ _ en1
      clear eL10 eW10 eL9 eW9 s10 s11 s10'
      generalize hmn : h.length + h'.length + 1 + (r.length + r'.length + 1) = mn at en1 en2
      -- one >> two
      obtain ⟨dx1, cp1, cf1, hc1, _⟩ := id K1.cn
      obtain ⟨dx2, cp2, cf2, hc2, _⟩ := id K2.cn
      refine ⟨_, rfl, _, rfl, W, _, _, _, rfl, rfl, .of eW11, at_of (j := e) rfl gc, _, rfl, _, rfl, W, _, _, _, rfl, rfl, .of eW11, at_of (j := f) rfl gc', c, c', dx1, dx2, _, _, rfl, rfl, hc1, hc2, c, c', _, _, _, _, rfl, K1.cn.cr, K2.cn.cr, nn1, nn2, fun x dx xp xf H12 hs R s12 fq fF ex eq eF lw hl rl rok => ?_⟩
      have s12' := s11'.same s12
      have dX := s11'.dk.new fq
      have dF := s11'.dk.new fF
      have cx : CnD T.C_Counted H12 d g x (needL hs (trim R)) (trim R) := ⟨dx, xp, xf, ex, ⟨eq, dX.1, dX.2⟩, ⟨eF, dF.1, dF.2⟩⟩
      have K1 := K1.keep s11'.dk (Same.kd s12)
      have K2 := K2.keep s11'.dk (Same.kd s12)
      have eW12 := s12 _ _ eW11
      have en1 := s12 _ _ en1
      have en2 := s12 _ _ en2
      have a1 : ∀ i : Nat, numAt (needL h (trim r)) (trim r) (i : Int) = lawAt h r (i : Int) := fun i => numAt_need h r (by omega)
      have a2 : ∀ i : Nat, numAt (needL h' (trim r')) (trim r') (i : Int) = lawAt h' r' (i : Int) := fun i => numAt_need h' r' (by omega)
      have lw2 : ∀ i : Nat, cnv (lawAt h r) (lawAt h' r') i = tld hs R i := fun i => by
        rw [← cnv_eq a1 a2 i]; exact (lw i).symm
      have mok := (nn1.mok nn2 (m := mn) (by omega)).eq (stp_eq a1) a2
      have b1 : (needL h (trim r)).length ≤ h.length := by
        unfold needL; rw [List.length_take]; exact Nat.min_le_right _ _
      have b2 : (needL h' (trim r')).length ≤ h'.length := by
        unfold needL; rw [List.length_take]; exact Nat.min_le_right _ _
      have b3 := trim_length r
      have b4 := trim_length r'
      clear s12 ex eq eF fq fF lw eW11 s11' hc1 hc2 nn1 nn2 a1 a2 dX dF
      -- due
      refine ⟨_, rfl, _, rfl, n1, n2, lawAt h r, lawAt h' r', mn, rfl, en1, en2, by omega, by omega, mok, fun D3 H13 f13 s13 e13 => ?_⟩
      rw [nN_eq (g := tld hs R) fun i _ => lw2 i] at e13
      have dD3 := s12'.dk.new f13
      have s13' := s12'.same s13
      have cx := cx.keep s12'.dk (Same.kd s13)
      have K1 := K1.keep s12'.dk (Same.kd s13)
      have K2 := K2.keep s12'.dk (Same.kd s13)
      have eW13 := s13 _ _ eW12
      have en1 := s13 _ _ en1
      have en2 := s13 _ _ en2
      clear s13 f13 s12' eW12 mok lw2
      -- what the made one tells
      obtain ⟨dz, zp, zf, hz, _⟩ := id cx
      refine ⟨_, rfl, _, _, _, _, true, rfl, .own T.C_Counted, .base (.ins hz T.cl_Counted T.xa_Counted T.xn_Counted T.xt_Counted T.xm_Counted), if_pos (beq_self_eq_true _), _, rfl, ?_⟩
      refine ⟨_, rfl, _, rfl, _, rfl, x, D3, hs, R, mn, r.length + r'.length + 1, rfl, cx.cr, e13, rok, by omega, by omega, by omega, fun H14 s14 => ⟨_, rfl, ?_⟩⟩
      have s14' := s13'.same s14
      have cx := cx.keep s13'.dk (Same.kd s14)
      have K1 := K1.keep s13'.dk (Same.kd s14)
      have K2 := K2.keep s13'.dk (Same.kd s14)
      have eW14 := s14 _ _ eW13
      have en1 := s14 _ _ en1
      have en2 := s14 _ _ en2
      have e14 := s14 _ _ e13
      clear s14 s13' eW13 e13 hz
      -- its numbers, and a number below 0
      refine ⟨_, rfl, _, rfl, ?_, ?_, fun D hDn => ?_⟩
      · omega
      · omega
      refine lc_range (lo := 0) (n := _) (fun i H' => Same H14 H' ∧ H' D = some (.lst ((nN (tld hs R) i).map V.int))) ⟨same_upd hDn, upd_same⟩ ?_ ?_
      · rintro i H15 hi ⟨s15, e15⟩
        have cx1 := cx.cr.same s15
        obtain ⟨dz, zp, zf, hz, _, _⟩ := id cx1
        refine ⟨rfl, _, rfl, _, rfl, x, dz, _, rfl, hz, x, _, _, _, rfl, cx1, rok.trim, Nat.le_trans (m := 1000) (by omega) (by decide +kernel), fun _ H16 s16 => ⟨_, s16 _ _ e15, ?_, fun b o e => ?_, ?_⟩, fun neg => absurd neg (by omega)⟩
        · rw [List.length_map, nN_len]; exact small1000 (by omega)
        · rw [upd_ne (ne_of_none e hDn)]
          exact s16 b o (s15 b o e)
        · rw [upd_same, nN_succ, List.map_append, numAt_need hs R (by omega), Int.zero_add]; rfl
      rintro H15 ⟨s15, e15⟩
      rw [show (((h.length : Int) + (h'.length : Int) + 1 + ((r.length : Int) + (r'.length : Int) + 1))).toNat = mn by omega] at e15
      refine ⟨_, rfl, .list ((nN (tld hs R) mn).map PyData.int), .list ((nN (tld hs R) mn).map PyData.int), .lst (.of e15) dp_ints, .lst (.of (s15 _ _ e14)) dp_ints, list_ok _, list_ok _, _, rfl, iteEq (SeqAt.eqv_refl _ (SeqAt.canLay_of_shaped (list_ok _))) ?_⟩
      have s15' := s14'.same s15
      have cx := cx.keep s14'.dk (Same.kd s15)
      have K1 := K1.keep s14'.dk (Same.kd s15)
      have K2 := K2.keep s14'.dk (Same.kd s15)
      have eW15 := s15 _ _ eW14
      have en1 := s15 _ _ en1
      have en2 := s15 _ _ en2
      clear s15 e15 s14' e14 eW14
      refine ⟨_, rfl, _, rfl, _, rfl, d, g, 9, rfl, s15'.dk, by decide, by decide +kernel, fun y H16 y0 y1 hD16 k16 => ⟨_, _, rfl, rfl, x, _, _, _, rfl, (cx.keep s15'.dk k16).cr, rok.trim, by omega, Nat.le_trans (m := 1000) (by omega) (by decide +kernel), fun H17 s17 => ⟨_, rfl, ?_⟩⟩⟩
      have k17 := k16.trans (Same.kd (d := d) (g := g) s17)
      have s17' : Std H8 H17 d g := (s15'.draw hD16 k16).same s17
      have K1 := K1.keep s15'.dk k17
      have K2 := K2.keep s15'.dk k17
      have eW17 := k17 _ _ eW15 dW.1 dW.2
      have en1 := k17 _ _ en1 dN1.1 dN1.2
      have en2 := k17 _ _ en2 dN2.1 dN2.2
      clear k16 s17 hD16 s15' eW15 cx k17
      -- the two are as they were
      refine ⟨_, rfl, _, rfl, W, _, _, _, rfl, rfl, .of eW17, at_of (j := e) rfl gc, _, rfl, _, rfl, c, n1, h, r, mn, r.length + r'.length + 1, rfl, K1.cn.cr, en1, K1.ok.row, by omega, by omega, by omega, fun H18 s18 => ⟨_, rfl, ?_⟩⟩
      have K2 := K2.keep s17'.dk (Same.kd s18)
      refine ⟨_, rfl, _, rfl, W, _, _, _, rfl, rfl, .of (s18 _ _ eW17), at_of (j := f) rfl gc', _, rfl, _, rfl, c', n2, h', r', mn, r.length + r'.length + 1, rfl, K2.cn.cr, s18 _ _ en2, K2.ok.row, by omega, by omega, by omega, fun H19 s19 => ⟨_, rfl, ?_⟩⟩
      exact ⟨(s17'.same s18).same s19, _, _, _, _, _, _, _, _, rfl⟩
    · rintro σ H9 ⟨_, _, _, _, _, _, _, _, _, rfl⟩
      exact k _
end
set_option maxHeartbeats 8000000 in
theorem all_mk {l : PySem.W.OpenLaw} {w : World} {K : PySem.W.Frag} {h : Heap} {mg : Str → Option Value} {fa f_PlanError_init f_value_at f_without_zeros f_differences_of f_one_earlier f_polynomial_through f_least_begin f_one_after_other f_Counted_init f_Counted_begin f_Counted_firsts f_Counted_poly f_Counted_getitem f_Counted_rshift f_law_deck f_law_draw f_law_great f_law_list f_law_value f_law_lists f_law_numbers f_law_told_right f_law_refused f_law_followed f_law : Addr} (X : K.In h) (G : h.Ns mainGlobals mg) (hfa : mg "law" = some (.ref fa))
    {C_Counted : Addr}
    {C_InvalidNumber C_PlanError : Addr}
    {nm_InvalidNumber q_InvalidNumber : Str} {N_InvalidNumber : Addr} {bs_InvalidNumber : List Value} {sn_InvalidNumber : List Str} {sub_InvalidNumber : List Value} {ab_InvalidNumber : Bool} {col_InvalidNumber : Option Bool} {dd_InvalidNumber : Option Addr} {k0_InvalidNumber k1_InvalidNumber k2_InvalidNumber k3_InvalidNumber k5_InvalidNumber : Option Value}
    {od_PlanError_init an_PlanError_init : Option Addr} {sl_PlanError_init : Array (Option Value)} {oc_PlanError_init kV_PlanError_init dc_PlanError_init pm_PlanError_init cd_PlanError_init ct_PlanError_init : Value}
    {od_value_at an_value_at : Option Addr} {sl_value_at : Array (Option Value)} {oc_value_at kV_value_at dc_value_at pm_value_at cd_value_at ct_value_at : Value}
    {od_without_zeros an_without_zeros : Option Addr} {sl_without_zeros : Array (Option Value)} {oc_without_zeros kV_without_zeros dc_without_zeros pm_without_zeros cd_without_zeros ct_without_zeros : Value}
    {od_differences_of an_differences_of : Option Addr} {sl_differences_of : Array (Option Value)} {oc_differences_of kV_differences_of dc_differences_of pm_differences_of cd_differences_of ct_differences_of : Value}
    {od_one_earlier an_one_earlier : Option Addr} {sl_one_earlier : Array (Option Value)} {oc_one_earlier kV_one_earlier dc_one_earlier pm_one_earlier cd_one_earlier ct_one_earlier : Value}
    {od_polynomial_through an_polynomial_through : Option Addr} {sl_polynomial_through : Array (Option Value)} {oc_polynomial_through kV_polynomial_through dc_polynomial_through pm_polynomial_through cd_polynomial_through ct_polynomial_through : Value}
    {od_least_begin an_least_begin : Option Addr} {sl_least_begin : Array (Option Value)} {oc_least_begin kV_least_begin dc_least_begin pm_least_begin cd_least_begin ct_least_begin : Value}
    {od_one_after_other an_one_after_other : Option Addr} {sl_one_after_other : Array (Option Value)} {oc_one_after_other kV_one_after_other dc_one_after_other pm_one_after_other cd_one_after_other ct_one_after_other : Value}
    {od_Counted_init an_Counted_init : Option Addr} {sl_Counted_init : Array (Option Value)} {oc_Counted_init kV_Counted_init dc_Counted_init pm_Counted_init cd_Counted_init ct_Counted_init : Value}
    {od_Counted_begin an_Counted_begin : Option Addr} {sl_Counted_begin : Array (Option Value)} {oc_Counted_begin kV_Counted_begin dc_Counted_begin pm_Counted_begin cd_Counted_begin ct_Counted_begin : Value}
    {p_Counted_begin : Addr} {r_Counted_begin : List Value}
    {od_Counted_firsts an_Counted_firsts : Option Addr} {sl_Counted_firsts : Array (Option Value)} {oc_Counted_firsts kV_Counted_firsts dc_Counted_firsts pm_Counted_firsts cd_Counted_firsts ct_Counted_firsts : Value}
    {p_Counted_firsts : Addr} {r_Counted_firsts : List Value}
    {od_Counted_poly an_Counted_poly : Option Addr} {sl_Counted_poly : Array (Option Value)} {oc_Counted_poly kV_Counted_poly dc_Counted_poly pm_Counted_poly cd_Counted_poly ct_Counted_poly : Value}
    {p_Counted_poly : Addr} {r_Counted_poly : List Value}
    {od_Counted_getitem an_Counted_getitem : Option Addr} {sl_Counted_getitem : Array (Option Value)} {oc_Counted_getitem kV_Counted_getitem dc_Counted_getitem pm_Counted_getitem cd_Counted_getitem ct_Counted_getitem : Value}
    {od_Counted_rshift an_Counted_rshift : Option Addr} {sl_Counted_rshift : Array (Option Value)} {oc_Counted_rshift kV_Counted_rshift dc_Counted_rshift pm_Counted_rshift cd_Counted_rshift ct_Counted_rshift : Value}
    {od_law_deck an_law_deck : Option Addr} {sl_law_deck : Array (Option Value)} {oc_law_deck kV_law_deck dc_law_deck pm_law_deck cd_law_deck ct_law_deck : Value}
    {od_law_draw an_law_draw : Option Addr} {sl_law_draw : Array (Option Value)} {oc_law_draw kV_law_draw dc_law_draw pm_law_draw cd_law_draw ct_law_draw : Value}
    {od_law_great an_law_great : Option Addr} {sl_law_great : Array (Option Value)} {oc_law_great kV_law_great dc_law_great pm_law_great cd_law_great ct_law_great : Value}
    {od_law_list an_law_list : Option Addr} {sl_law_list : Array (Option Value)} {oc_law_list kV_law_list dc_law_list pm_law_list cd_law_list ct_law_list : Value}
    {od_law_value an_law_value : Option Addr} {sl_law_value : Array (Option Value)} {oc_law_value kV_law_value dc_law_value pm_law_value cd_law_value ct_law_value : Value}
    {od_law_lists an_law_lists : Option Addr} {sl_law_lists : Array (Option Value)} {oc_law_lists kV_law_lists dc_law_lists pm_law_lists cd_law_lists ct_law_lists : Value}
    {od_law_numbers an_law_numbers : Option Addr} {sl_law_numbers : Array (Option Value)} {oc_law_numbers kV_law_numbers dc_law_numbers pm_law_numbers cd_law_numbers ct_law_numbers : Value}
    {od_law_told_right an_law_told_right : Option Addr} {sl_law_told_right : Array (Option Value)} {oc_law_told_right kV_law_told_right dc_law_told_right pm_law_told_right cd_law_told_right ct_law_told_right : Value}
    {od_law_refused an_law_refused : Option Addr} {sl_law_refused : Array (Option Value)} {oc_law_refused kV_law_refused dc_law_refused pm_law_refused cd_law_refused ct_law_refused : Value}
    {od_law_followed an_law_followed : Option Addr} {sl_law_followed : Array (Option Value)} {oc_law_followed kV_law_followed dc_law_followed pm_law_followed cd_law_followed ct_law_followed : Value}
    {od_law an_law : Option Addr} {sl_law : Array (Option Value)} {oc_law kV_law dc_law pm_law cd_law ct_law : Value}
    (aC_Counted : PySem.W.nsIn K mainGlobals "Counted" = some (some (.ref C_Counted)))
    (pg_Counted : PySem.W.plainGet K C_Counted Str.empty = true)
    (hd_Counted : PySem.W.hasDictIn K C_Counted = true)
    (po_Counted : PySem.W.plainOver K C_Counted = true)
    (sa_Counted : PySem.W.findIn K (.ref C_Counted) "__setattr__" = some (some (.builtin "object.__setattr__")))
    (ms_Counted : PySem.W.makesIn K C_Counted = true)
    (kc_Counted : PySem.W.keepIn K (.ref C_Counted) = true)
    (n_Counted_poly : PySem.W.findIn K (.ref C_Counted) "_poly" = some none)
    (n_Counted_firsts : PySem.W.findIn K (.ref C_Counted) "_firsts" = some none)
    (aC_InvalidNumber : PySem.W.nsIn K mainGlobals "InvalidNumber" = some (some (.ref C_InvalidNumber)))
    (eC_InvalidNumber : PySem.W.subIn K (.ref C_InvalidNumber) (.type "BaseException") = some true)
    (tC_InvalidNumber : PySem.W.typeIn K (.ref C_InvalidNumber) = some (.type "type"))
    (hC_InvalidNumber : PySem.W.hasDictIn K C_InvalidNumber = true)
    (xL_InvalidNumber : K.lookup C_InvalidNumber = some (excClassObj nm_InvalidNumber q_InvalidNumber C_InvalidNumber N_InvalidNumber bs_InvalidNumber [.ref C_PlanError, .type "ValueError", .type "Exception", .type "BaseException", .type "object"] true sn_InvalidNumber sub_InvalidNumber ab_InvalidNumber col_InvalidNumber dd_InvalidNumber k0_InvalidNumber k1_InvalidNumber k2_InvalidNumber k3_InvalidNumber k5_InvalidNumber "ValueError.__new__"))
    (sa_InvalidNumber : PySem.W.findIn K (.ref C_InvalidNumber) "__setattr__" = some (some (.builtin "object.__setattr__")))
    (ga_InvalidNumber : PySem.W.findIn K (.ref C_InvalidNumber) "__getattribute__" = some (some (.builtin "BaseException.__getattribute__")))
    (gt_InvalidNumber : PySem.W.findIn K (.ref C_InvalidNumber) "__getattr__" = some none)
    (nv_InvalidNumber : PySem.W.findIn K (.ref C_InvalidNumber) "value" = some none)
    (ic_InvalidNumber : PySem.W.findIn K (.ref C_InvalidNumber) "__init__" = some (some (.ref f_PlanError_init)))
    (kC_InvalidNumber : PySem.W.keepIn K (.ref C_InvalidNumber) = true)
    (aC_PlanError : PySem.W.nsIn K mainGlobals "PlanError" = some (some (.ref C_PlanError)))
    (eC_PlanError : PySem.W.subIn K (.ref C_PlanError) (.type "BaseException") = some true)
    (tC_PlanError : PySem.W.typeIn K (.ref C_PlanError) = some (.type "type"))
    (hC_PlanError : PySem.W.hasDictIn K C_PlanError = true)
    (ti : PySem.W.typeIn K (.ref f_PlanError_init) = some (.type "function"))
    (sb_InvalidNumber_InvalidNumber : PySem.W.subIn K (.ref C_InvalidNumber) (.ref C_InvalidNumber) = some true)
    (l_PlanError_init : K.lookup f_PlanError_init = some ⟨oc_PlanError_init, od_PlanError_init, .func (PySem.W.fnOf "__init__" "PlanError.__init__" (defArgs s_PlanError_init) (defBody s_PlanError_init) (defScope s_PlanError_init) .none kV_PlanError_init dc_PlanError_init pm_PlanError_init an_PlanError_init cd_PlanError_init ct_PlanError_init), sl_PlanError_init⟩)
    (c_PlanError_init : PySem.W.codeIn K cd_PlanError_init "PlanError.__init__" = true)
    (k_PlanError_init : PySem.W.keepIn K (.ref f_PlanError_init) = true)
    (a_value_at : PySem.W.nsIn K mainGlobals "value_at" = some (some (.ref f_value_at)))
    (l_value_at : K.lookup f_value_at = some ⟨oc_value_at, od_value_at, .func (PySem.W.fnOf "value_at" "value_at" (defArgs s_value_at) (defBody s_value_at) (defScope s_value_at) .none kV_value_at dc_value_at pm_value_at an_value_at cd_value_at ct_value_at), sl_value_at⟩)
    (c_value_at : PySem.W.codeIn K cd_value_at "value_at" = true)
    (k_value_at : PySem.W.keepIn K (.ref f_value_at) = true)
    (a_without_zeros : PySem.W.nsIn K mainGlobals "without_zeros" = some (some (.ref f_without_zeros)))
    (l_without_zeros : K.lookup f_without_zeros = some ⟨oc_without_zeros, od_without_zeros, .func (PySem.W.fnOf "without_zeros" "without_zeros" (defArgs s_without_zeros) (defBody s_without_zeros) (defScope s_without_zeros) .none kV_without_zeros dc_without_zeros pm_without_zeros an_without_zeros cd_without_zeros ct_without_zeros), sl_without_zeros⟩)
    (c_without_zeros : PySem.W.codeIn K cd_without_zeros "without_zeros" = true)
    (k_without_zeros : PySem.W.keepIn K (.ref f_without_zeros) = true)
    (a_differences_of : PySem.W.nsIn K mainGlobals "differences_of" = some (some (.ref f_differences_of)))
    (l_differences_of : K.lookup f_differences_of = some ⟨oc_differences_of, od_differences_of, .func (PySem.W.fnOf "differences_of" "differences_of" (defArgs s_differences_of) (defBody s_differences_of) (defScope s_differences_of) .none kV_differences_of dc_differences_of pm_differences_of an_differences_of cd_differences_of ct_differences_of), sl_differences_of⟩)
    (c_differences_of : PySem.W.codeIn K cd_differences_of "differences_of" = true)
    (k_differences_of : PySem.W.keepIn K (.ref f_differences_of) = true)
    (a_one_earlier : PySem.W.nsIn K mainGlobals "_one_earlier" = some (some (.ref f_one_earlier)))
    (l_one_earlier : K.lookup f_one_earlier = some ⟨oc_one_earlier, od_one_earlier, .func (PySem.W.fnOf "_one_earlier" "_one_earlier" (defArgs s_one_earlier) (defBody s_one_earlier) (defScope s_one_earlier) .none kV_one_earlier dc_one_earlier pm_one_earlier an_one_earlier cd_one_earlier ct_one_earlier), sl_one_earlier⟩)
    (c_one_earlier : PySem.W.codeIn K cd_one_earlier "_one_earlier" = true)
    (k_one_earlier : PySem.W.keepIn K (.ref f_one_earlier) = true)
    (a_polynomial_through : PySem.W.nsIn K mainGlobals "polynomial_through" = some (some (.ref f_polynomial_through)))
    (l_polynomial_through : K.lookup f_polynomial_through = some ⟨oc_polynomial_through, od_polynomial_through, .func (PySem.W.fnOf "polynomial_through" "polynomial_through" (defArgs s_polynomial_through) (defBody s_polynomial_through) (defScope s_polynomial_through) .none kV_polynomial_through dc_polynomial_through pm_polynomial_through an_polynomial_through cd_polynomial_through ct_polynomial_through), sl_polynomial_through⟩)
    (c_polynomial_through : PySem.W.codeIn K cd_polynomial_through "polynomial_through" = true)
    (k_polynomial_through : PySem.W.keepIn K (.ref f_polynomial_through) = true)
    (a_least_begin : PySem.W.nsIn K mainGlobals "least_begin" = some (some (.ref f_least_begin)))
    (l_least_begin : K.lookup f_least_begin = some ⟨oc_least_begin, od_least_begin, .func (PySem.W.fnOf "least_begin" "least_begin" (defArgs s_least_begin) (defBody s_least_begin) (defScope s_least_begin) .none kV_least_begin dc_least_begin pm_least_begin an_least_begin cd_least_begin ct_least_begin), sl_least_begin⟩)
    (c_least_begin : PySem.W.codeIn K cd_least_begin "least_begin" = true)
    (k_least_begin : PySem.W.keepIn K (.ref f_least_begin) = true)
    (a_one_after_other : PySem.W.nsIn K mainGlobals "_one_after_other" = some (some (.ref f_one_after_other)))
    (l_one_after_other : K.lookup f_one_after_other = some ⟨oc_one_after_other, od_one_after_other, .func (PySem.W.fnOf "_one_after_other" "_one_after_other" (defArgs s_one_after_other) (defBody s_one_after_other) (defScope s_one_after_other) .none kV_one_after_other dc_one_after_other pm_one_after_other an_one_after_other cd_one_after_other ct_one_after_other), sl_one_after_other⟩)
    (c_one_after_other : PySem.W.codeIn K cd_one_after_other "_one_after_other" = true)
    (k_one_after_other : PySem.W.keepIn K (.ref f_one_after_other) = true)
    (a_Counted_init : PySem.W.findIn K (.ref C_Counted) "__init__" = some (some (.ref f_Counted_init)))
    (i_Counted_init : PySem.W.isFn K (.ref f_Counted_init) = true)
    (l_Counted_init : K.lookup f_Counted_init = some ⟨oc_Counted_init, od_Counted_init, .func (PySem.W.fnOf "__init__" "Counted.__init__" (defArgs s_Counted_init) (defBody s_Counted_init) (defScope s_Counted_init) .none kV_Counted_init dc_Counted_init pm_Counted_init an_Counted_init cd_Counted_init ct_Counted_init), sl_Counted_init⟩)
    (c_Counted_init : PySem.W.codeIn K cd_Counted_init "Counted.__init__" = true)
    (k_Counted_init : PySem.W.keepIn K (.ref f_Counted_init) = true)
    (a_Counted_begin : PySem.W.findIn K (.ref C_Counted) "begin" = some (some (.ref p_Counted_begin)))
    (ps_Counted_begin : PySem.W.specialIn K (.ref p_Counted_begin) "__get__" = some (some (.builtin "property.__get__")))
    (pt_Counted_begin : PySem.W.takesIn K (.ref p_Counted_begin) = some true)
    (pr_Counted_begin : PySem.W.recIn K p_Counted_begin "property" = some (.ref f_Counted_begin :: r_Counted_begin))
    (l_Counted_begin : K.lookup f_Counted_begin = some ⟨oc_Counted_begin, od_Counted_begin, .func (PySem.W.fnOf "begin" "Counted.begin" (defArgs s_Counted_begin) (defBody s_Counted_begin) (defScope s_Counted_begin) .none kV_Counted_begin dc_Counted_begin pm_Counted_begin an_Counted_begin cd_Counted_begin ct_Counted_begin), sl_Counted_begin⟩)
    (c_Counted_begin : PySem.W.codeIn K cd_Counted_begin "Counted.begin" = true)
    (k_Counted_begin : PySem.W.keepIn K (.ref f_Counted_begin) = true)
    (a_Counted_firsts : PySem.W.findIn K (.ref C_Counted) "firsts" = some (some (.ref p_Counted_firsts)))
    (ps_Counted_firsts : PySem.W.specialIn K (.ref p_Counted_firsts) "__get__" = some (some (.builtin "property.__get__")))
    (pt_Counted_firsts : PySem.W.takesIn K (.ref p_Counted_firsts) = some true)
    (pr_Counted_firsts : PySem.W.recIn K p_Counted_firsts "property" = some (.ref f_Counted_firsts :: r_Counted_firsts))
    (l_Counted_firsts : K.lookup f_Counted_firsts = some ⟨oc_Counted_firsts, od_Counted_firsts, .func (PySem.W.fnOf "firsts" "Counted.firsts" (defArgs s_Counted_firsts) (defBody s_Counted_firsts) (defScope s_Counted_firsts) .none kV_Counted_firsts dc_Counted_firsts pm_Counted_firsts an_Counted_firsts cd_Counted_firsts ct_Counted_firsts), sl_Counted_firsts⟩)
    (c_Counted_firsts : PySem.W.codeIn K cd_Counted_firsts "Counted.firsts" = true)
    (k_Counted_firsts : PySem.W.keepIn K (.ref f_Counted_firsts) = true)
    (a_Counted_poly : PySem.W.findIn K (.ref C_Counted) "poly" = some (some (.ref p_Counted_poly)))
    (ps_Counted_poly : PySem.W.specialIn K (.ref p_Counted_poly) "__get__" = some (some (.builtin "property.__get__")))
    (pt_Counted_poly : PySem.W.takesIn K (.ref p_Counted_poly) = some true)
    (pr_Counted_poly : PySem.W.recIn K p_Counted_poly "property" = some (.ref f_Counted_poly :: r_Counted_poly))
    (l_Counted_poly : K.lookup f_Counted_poly = some ⟨oc_Counted_poly, od_Counted_poly, .func (PySem.W.fnOf "poly" "Counted.poly" (defArgs s_Counted_poly) (defBody s_Counted_poly) (defScope s_Counted_poly) .none kV_Counted_poly dc_Counted_poly pm_Counted_poly an_Counted_poly cd_Counted_poly ct_Counted_poly), sl_Counted_poly⟩)
    (c_Counted_poly : PySem.W.codeIn K cd_Counted_poly "Counted.poly" = true)
    (k_Counted_poly : PySem.W.keepIn K (.ref f_Counted_poly) = true)
    (a_Counted_getitem : PySem.W.findIn K (.ref C_Counted) "__getitem__" = some (some (.ref f_Counted_getitem)))
    (i_Counted_getitem : PySem.W.isFn K (.ref f_Counted_getitem) = true)
    (l_Counted_getitem : K.lookup f_Counted_getitem = some ⟨oc_Counted_getitem, od_Counted_getitem, .func (PySem.W.fnOf "__getitem__" "Counted.__getitem__" (defArgs s_Counted_getitem) (defBody s_Counted_getitem) (defScope s_Counted_getitem) .none kV_Counted_getitem dc_Counted_getitem pm_Counted_getitem an_Counted_getitem cd_Counted_getitem ct_Counted_getitem), sl_Counted_getitem⟩)
    (c_Counted_getitem : PySem.W.codeIn K cd_Counted_getitem "Counted.__getitem__" = true)
    (k_Counted_getitem : PySem.W.keepIn K (.ref f_Counted_getitem) = true)
    (fn_Counted_getitem : PySem.W.fnIn K f_Counted_getitem = true)
    (a_Counted_rshift : PySem.W.findIn K (.ref C_Counted) "__rshift__" = some (some (.ref f_Counted_rshift)))
    (i_Counted_rshift : PySem.W.isFn K (.ref f_Counted_rshift) = true)
    (l_Counted_rshift : K.lookup f_Counted_rshift = some ⟨oc_Counted_rshift, od_Counted_rshift, .func (PySem.W.fnOf "__rshift__" "Counted.__rshift__" (defArgs s_Counted_rshift) (defBody s_Counted_rshift) (defScope s_Counted_rshift) .none kV_Counted_rshift dc_Counted_rshift pm_Counted_rshift an_Counted_rshift cd_Counted_rshift ct_Counted_rshift), sl_Counted_rshift⟩)
    (c_Counted_rshift : PySem.W.codeIn K cd_Counted_rshift "Counted.__rshift__" = true)
    (k_Counted_rshift : PySem.W.keepIn K (.ref f_Counted_rshift) = true)
    (a_law_deck : PySem.W.nsIn K mainGlobals "_law_deck" = some (some (.ref f_law_deck)))
    (l_law_deck : K.lookup f_law_deck = some ⟨oc_law_deck, od_law_deck, .func (PySem.W.fnOf "_law_deck" "_law_deck" (defArgs s_law_deck) (defBody s_law_deck) (defScope s_law_deck) .none kV_law_deck dc_law_deck pm_law_deck an_law_deck cd_law_deck ct_law_deck), sl_law_deck⟩)
    (c_law_deck : PySem.W.codeIn K cd_law_deck "_law_deck" = true)
    (k_law_deck : PySem.W.keepIn K (.ref f_law_deck) = true)
    (a_law_draw : PySem.W.nsIn K mainGlobals "_law_draw" = some (some (.ref f_law_draw)))
    (l_law_draw : K.lookup f_law_draw = some ⟨oc_law_draw, od_law_draw, .func (PySem.W.fnOf "_law_draw" "_law_draw" (defArgs s_law_draw) (defBody s_law_draw) (defScope s_law_draw) .none kV_law_draw dc_law_draw pm_law_draw an_law_draw cd_law_draw ct_law_draw), sl_law_draw⟩)
    (c_law_draw : PySem.W.codeIn K cd_law_draw "_law_draw" = true)
    (k_law_draw : PySem.W.keepIn K (.ref f_law_draw) = true)
    (a_law_great : PySem.W.nsIn K mainGlobals "_law_great" = some (some (.ref f_law_great)))
    (l_law_great : K.lookup f_law_great = some ⟨oc_law_great, od_law_great, .func (PySem.W.fnOf "_law_great" "_law_great" (defArgs s_law_great) (defBody s_law_great) (defScope s_law_great) .none kV_law_great dc_law_great pm_law_great an_law_great cd_law_great ct_law_great), sl_law_great⟩)
    (c_law_great : PySem.W.codeIn K cd_law_great "_law_great" = true)
    (k_law_great : PySem.W.keepIn K (.ref f_law_great) = true)
    (a_law_list : PySem.W.nsIn K mainGlobals "_law_list" = some (some (.ref f_law_list)))
    (l_law_list : K.lookup f_law_list = some ⟨oc_law_list, od_law_list, .func (PySem.W.fnOf "_law_list" "_law_list" (defArgs s_law_list) (defBody s_law_list) (defScope s_law_list) .none kV_law_list dc_law_list pm_law_list an_law_list cd_law_list ct_law_list), sl_law_list⟩)
    (c_law_list : PySem.W.codeIn K cd_law_list "_law_list" = true)
    (k_law_list : PySem.W.keepIn K (.ref f_law_list) = true)
    (a_law_value : PySem.W.nsIn K mainGlobals "_law_value" = some (some (.ref f_law_value)))
    (l_law_value : K.lookup f_law_value = some ⟨oc_law_value, od_law_value, .func (PySem.W.fnOf "_law_value" "_law_value" (defArgs s_law_value) (defBody s_law_value) (defScope s_law_value) .none kV_law_value dc_law_value pm_law_value an_law_value cd_law_value ct_law_value), sl_law_value⟩)
    (c_law_value : PySem.W.codeIn K cd_law_value "_law_value" = true)
    (k_law_value : PySem.W.keepIn K (.ref f_law_value) = true)
    (a_law_lists : PySem.W.nsIn K mainGlobals "_law_lists" = some (some (.ref f_law_lists)))
    (l_law_lists : K.lookup f_law_lists = some ⟨oc_law_lists, od_law_lists, .func (PySem.W.fnOf "_law_lists" "_law_lists" (defArgs s_law_lists) (defBody s_law_lists) (defScope s_law_lists) .none kV_law_lists dc_law_lists pm_law_lists an_law_lists cd_law_lists ct_law_lists), sl_law_lists⟩)
    (c_law_lists : PySem.W.codeIn K cd_law_lists "_law_lists" = true)
    (k_law_lists : PySem.W.keepIn K (.ref f_law_lists) = true)
    (a_law_numbers : PySem.W.nsIn K mainGlobals "_law_numbers" = some (some (.ref f_law_numbers)))
    (l_law_numbers : K.lookup f_law_numbers = some ⟨oc_law_numbers, od_law_numbers, .func (PySem.W.fnOf "_law_numbers" "_law_numbers" (defArgs s_law_numbers) (defBody s_law_numbers) (defScope s_law_numbers) .none kV_law_numbers dc_law_numbers pm_law_numbers an_law_numbers cd_law_numbers ct_law_numbers), sl_law_numbers⟩)
    (c_law_numbers : PySem.W.codeIn K cd_law_numbers "_law_numbers" = true)
    (k_law_numbers : PySem.W.keepIn K (.ref f_law_numbers) = true)
    (a_law_told_right : PySem.W.nsIn K mainGlobals "_law_told_right" = some (some (.ref f_law_told_right)))
    (l_law_told_right : K.lookup f_law_told_right = some ⟨oc_law_told_right, od_law_told_right, .func (PySem.W.fnOf "_law_told_right" "_law_told_right" (defArgs s_law_told_right) (defBody s_law_told_right) (defScope s_law_told_right) .none kV_law_told_right dc_law_told_right pm_law_told_right an_law_told_right cd_law_told_right ct_law_told_right), sl_law_told_right⟩)
    (c_law_told_right : PySem.W.codeIn K cd_law_told_right "_law_told_right" = true)
    (k_law_told_right : PySem.W.keepIn K (.ref f_law_told_right) = true)
    (a_law_refused : PySem.W.nsIn K mainGlobals "_law_refused" = some (some (.ref f_law_refused)))
    (l_law_refused : K.lookup f_law_refused = some ⟨oc_law_refused, od_law_refused, .func (PySem.W.fnOf "_law_refused" "_law_refused" (defArgs s_law_refused) (defBody s_law_refused) (defScope s_law_refused) .none kV_law_refused dc_law_refused pm_law_refused an_law_refused cd_law_refused ct_law_refused), sl_law_refused⟩)
    (c_law_refused : PySem.W.codeIn K cd_law_refused "_law_refused" = true)
    (k_law_refused : PySem.W.keepIn K (.ref f_law_refused) = true)
    (a_law_followed : PySem.W.nsIn K mainGlobals "_law_followed" = some (some (.ref f_law_followed)))
    (l_law_followed : K.lookup f_law_followed = some ⟨oc_law_followed, od_law_followed, .func (PySem.W.fnOf "_law_followed" "_law_followed" (defArgs s_law_followed) (defBody s_law_followed) (defScope s_law_followed) .none kV_law_followed dc_law_followed pm_law_followed an_law_followed cd_law_followed ct_law_followed), sl_law_followed⟩)
    (c_law_followed : PySem.W.codeIn K cd_law_followed "_law_followed" = true)
    (k_law_followed : PySem.W.keepIn K (.ref f_law_followed) = true)
    (a_law : PySem.W.nsIn K mainGlobals "law" = some (some (.ref f_law)))
    (l_law : K.lookup f_law = some ⟨oc_law, od_law, .func (PySem.W.fnOf "law" "law" (defArgs s_law) (defBody s_law) (defScope s_law) .none kV_law dc_law pm_law an_law cd_law ct_law), sl_law⟩)
    (c_law : PySem.W.codeIn K cd_law "law" = true)
    (k_law : PySem.W.keepIn K (.ref f_law) = true)
    (z_all : PySem.W.nsIn K mainGlobals "all" = some none)
    (z_bool : PySem.W.nsIn K mainGlobals "bool" = some none)
    (z_enumerate : PySem.W.nsIn K mainGlobals "enumerate" = some none)
    (z_int : PySem.W.nsIn K mainGlobals "int" = some none)
    (z_isinstance : PySem.W.nsIn K mainGlobals "isinstance" = some none)
    (z_len : PySem.W.nsIn K mainGlobals "len" = some none)
    (z_list : PySem.W.nsIn K mainGlobals "list" = some none)
    (z_range : PySem.W.nsIn K mainGlobals "range" = some none)
    (z_sum : PySem.W.nsIn K mainGlobals "sum" = some none)
    (z_zip : PySem.W.nsIn K mainGlobals "zip" = some none)
    (y_comb : PySem.W.nsIn K mainGlobals "comb" = some (some (.builtin "math.comb")))
    (y_zip_longest : PySem.W.nsIn K mainGlobals "zip_longest" = some (some (.type "itertools.zip_longest")))
    (sf_Counted : PySem.W.selfFirst K C_Counted = true)
    (xa_Counted : PySem.W.findIn K (.ref C_Counted) "__class__" = some (some (.builtin "object.__class__")))
    (xn_Counted : PySem.W.specialIn K (.builtin "object.__class__") "__get__" = some (some (.builtin "getset_descriptor.__get__")))
    (xt_Counted : PySem.W.takesIn K (.builtin "object.__class__") = some true)
    (xm_Counted : PySem.W.mroIn K C_Counted (.type "object") = some true)
    : ∃ fd : FuncData, (∀ (s : Shared) (v : Value), BindsTo s fd ⟨[v], []⟩ [("script", v)]) ∧ ∀ base : Heap, K.In base → base.Ns mainGlobals mg → FnOk l.prog w K mg base CX0 9 fa fd ["script"] (spLaw K) := by
  have e := hfa.symm.trans (PySem.W.mg_of X G a_law)
  cases e
  have F_PlanError_init := fun_mk (st := s_PlanError_init) l_PlanError_init c_PlanError_init k_PlanError_init
  have b_PlanError_init := F_PlanError_init.binds (ps := ["self", "value"]) fun _ _ _ _ _ _ us hl => match us, hl with | [_, _], _ => rfl
  have F_value_at := fun_mk (st := s_value_at) l_value_at c_value_at k_value_at
  have b_value_at := F_value_at.binds (ps := ["poly", "n"]) fun _ _ _ _ _ _ us hl => match us, hl with | [_, _], _ => rfl
  have F_without_zeros := fun_mk (st := s_without_zeros) l_without_zeros c_without_zeros k_without_zeros
  have b_without_zeros := F_without_zeros.binds (ps := ["poly"]) fun _ _ _ _ _ _ us hl => match us, hl with | [_], _ => rfl
  have F_differences_of := fun_mk (st := s_differences_of) l_differences_of c_differences_of k_differences_of
  have b_differences_of := F_differences_of.binds (ps := ["values"]) fun _ _ _ _ _ _ us hl => match us, hl with | [_], _ => rfl
  have F_one_earlier := fun_mk (st := s_one_earlier) l_one_earlier c_one_earlier k_one_earlier
  have b_one_earlier := F_one_earlier.binds (ps := ["differences"]) fun _ _ _ _ _ _ us hl => match us, hl with | [_], _ => rfl
  have F_polynomial_through := fun_mk (st := s_polynomial_through) l_polynomial_through c_polynomial_through k_polynomial_through
  have b_polynomial_through := F_polynomial_through.binds (ps := ["begin", "values"]) fun _ _ _ _ _ _ us hl => match us, hl with | [_, _], _ => rfl
  have F_least_begin := fun_mk (st := s_least_begin) l_least_begin c_least_begin k_least_begin
  have b_least_begin := F_least_begin.binds (ps := ["firsts", "poly"]) fun _ _ _ _ _ _ us hl => match us, hl with | [_, _], _ => rfl
  have F_one_after_other := fun_mk (st := s_one_after_other) l_one_after_other c_one_after_other k_one_after_other
  have b_one_after_other := F_one_after_other.binds (ps := ["one", "other", "many"]) fun _ _ _ _ _ _ us hl => match us, hl with | [_, _, _], _ => rfl
  have F_Counted_init := fun_mk (st := s_Counted_init) l_Counted_init c_Counted_init k_Counted_init
  have b_Counted_init := F_Counted_init.binds (ps := ["self", "firsts", "poly"]) fun _ _ _ _ _ _ us hl => match us, hl with | [_, _, _], _ => rfl
  have F_Counted_begin := fun_mk (st := s_Counted_begin) l_Counted_begin c_Counted_begin k_Counted_begin
  have b_Counted_begin := F_Counted_begin.binds (ps := ["self"]) fun _ _ _ _ _ _ us hl => match us, hl with | [_], _ => rfl
  have F_Counted_firsts := fun_mk (st := s_Counted_firsts) l_Counted_firsts c_Counted_firsts k_Counted_firsts
  have b_Counted_firsts := F_Counted_firsts.binds (ps := ["self"]) fun _ _ _ _ _ _ us hl => match us, hl with | [_], _ => rfl
  have F_Counted_poly := fun_mk (st := s_Counted_poly) l_Counted_poly c_Counted_poly k_Counted_poly
  have b_Counted_poly := F_Counted_poly.binds (ps := ["self"]) fun _ _ _ _ _ _ us hl => match us, hl with | [_], _ => rfl
  have F_Counted_getitem := fun_mk (st := s_Counted_getitem) l_Counted_getitem c_Counted_getitem k_Counted_getitem
  have b_Counted_getitem := F_Counted_getitem.binds (ps := ["self", "at"]) fun _ _ _ _ _ _ us hl => match us, hl with | [_, _], _ => rfl
  have F_Counted_rshift := fun_mk (st := s_Counted_rshift) l_Counted_rshift c_Counted_rshift k_Counted_rshift
  have b_Counted_rshift := F_Counted_rshift.binds (ps := ["self", "other"]) fun _ _ _ _ _ _ us hl => match us, hl with | [_, _], _ => rfl
  have F_law_deck := fun_mk (st := s_law_deck) l_law_deck c_law_deck k_law_deck
  have b_law_deck := F_law_deck.binds (ps := ["script"]) fun _ _ _ _ _ _ us hl => match us, hl with | [_], _ => rfl
  have F_law_draw := fun_mk (st := s_law_draw) l_law_draw c_law_draw k_law_draw
  have b_law_draw := F_law_draw.binds (ps := ["deck", "many"]) fun _ _ _ _ _ _ us hl => match us, hl with | [_, _], _ => rfl
  have F_law_great := fun_mk (st := s_law_great) l_law_great c_law_great k_law_great
  have b_law_great := F_law_great.binds (ps := ["deck", "many"]) fun _ _ _ _ _ _ us hl => match us, hl with | [_, _], _ => rfl
  have F_law_list := fun_mk (st := s_law_list) l_law_list c_law_list k_law_list
  have b_law_list := F_law_list.binds (ps := ["deck", "most"]) fun _ _ _ _ _ _ us hl => match us, hl with | [_, _], _ => rfl
  have F_law_value := fun_mk (st := s_law_value) l_law_value c_law_value k_law_value
  have b_law_value := F_law_value.binds (ps := ["row", "at"]) fun _ _ _ _ _ _ us hl => match us, hl with | [_, _], _ => rfl
  have F_law_lists := fun_mk (st := s_law_lists) l_law_lists c_law_lists k_law_lists
  have b_law_lists := F_law_lists.binds (ps := ["deck", "most"]) fun _ _ _ _ _ _ us hl => match us, hl with | [_, _], _ => rfl
  have F_law_numbers := fun_mk (st := s_law_numbers) l_law_numbers c_law_numbers k_law_numbers
  have b_law_numbers := F_law_numbers.binds (ps := ["heads", "row", "many"]) fun _ _ _ _ _ _ us hl => match us, hl with | [_, _, _], _ => rfl
  have F_law_told_right := fun_mk (st := s_law_told_right) l_law_told_right c_law_told_right k_law_told_right
  have b_law_told_right := F_law_told_right.binds (ps := ["counted", "numbers", "most"]) fun _ _ _ _ _ _ us hl => match us, hl with | [_, _, _], _ => rfl
  have F_law_refused := fun_mk (st := s_law_refused) l_law_refused c_law_refused k_law_refused
  have b_law_refused := F_law_refused.binds (ps := ["counted", "at"]) fun _ _ _ _ _ _ us hl => match us, hl with | [_, _], _ => rfl
  have F_law_followed := fun_mk (st := s_law_followed) l_law_followed c_law_followed k_law_followed
  have b_law_followed := F_law_followed.binds (ps := ["one", "two"]) fun _ _ _ _ _ _ us hl => match us, hl with | [_, _], _ => rfl
  have F_law := fun_mk (st := s_law) l_law c_law k_law
  have b_law := F_law.binds (ps := ["script"]) fun _ _ _ _ _ _ us hl => match us, hl with | [_], _ => rfl
  let T : Tx K w mg := {  f_PlanError_init := f_PlanError_init, C_InvalidNumber := C_InvalidNumber, mg_InvalidNumber := PySem.W.mg_of X G aC_InvalidNumber, ox_InvalidNumber := ⟨⟨_, _, _, _, _, _, _, _, _, _, _, _, _, _, _, xL_InvalidNumber, rfl⟩, sa_InvalidNumber, eC_InvalidNumber, tC_InvalidNumber, kC_InvalidNumber⟩, ic_InvalidNumber := ic_InvalidNumber, nv_InvalidNumber := nv_InvalidNumber, xf_InvalidNumber := ⟨ga_InvalidNumber, gt_InvalidNumber, eC_InvalidNumber, hC_InvalidNumber⟩, ti := ti, C_PlanError := C_PlanError, mg_PlanError := PySem.W.mg_of X G aC_PlanError, em_InvalidNumber_InvalidNumber := PySem.W.exm_ref eC_InvalidNumber hC_InvalidNumber tC_InvalidNumber sb_InvalidNumber_InvalidNumber, C_Counted := C_Counted, cl_Counted := ⟨pg_Counted, hd_Counted, po_Counted, sa_Counted⟩, mg_Counted := PySem.W.mg_of X G aC_Counted, n_Counted_poly := n_Counted_poly, n_Counted_firsts := n_Counted_firsts, d_PlanError_init := _, F_PlanError_init := F_PlanError_init, b_PlanError_init := b_PlanError_init, f_value_at := f_value_at, d_value_at := _, F_value_at := F_value_at, b_value_at := b_value_at, g_value_at := PySem.W.mg_of X G a_value_at, f_without_zeros := f_without_zeros, d_without_zeros := _, F_without_zeros := F_without_zeros, b_without_zeros := b_without_zeros, g_without_zeros := PySem.W.mg_of X G a_without_zeros, f_differences_of := f_differences_of, d_differences_of := _, F_differences_of := F_differences_of, b_differences_of := b_differences_of, g_differences_of := PySem.W.mg_of X G a_differences_of, f_one_earlier := f_one_earlier, d_one_earlier := _, F_one_earlier := F_one_earlier, b_one_earlier := b_one_earlier, g_one_earlier := PySem.W.mg_of X G a_one_earlier, f_polynomial_through := f_polynomial_through, d_polynomial_through := _, F_polynomial_through := F_polynomial_through, b_polynomial_through := b_polynomial_through, g_polynomial_through := PySem.W.mg_of X G a_polynomial_through, f_least_begin := f_least_begin, d_least_begin := _, F_least_begin := F_least_begin, b_least_begin := b_least_begin, g_least_begin := PySem.W.mg_of X G a_least_begin, f_one_after_other := f_one_after_other, d_one_after_other := _, F_one_after_other := F_one_after_other, b_one_after_other := b_one_after_other, g_one_after_other := PySem.W.mg_of X G a_one_after_other, f_Counted_init := f_Counted_init, d_Counted_init := _, F_Counted_init := F_Counted_init, b_Counted_init := b_Counted_init, mk_Counted := ⟨ms_Counted, a_Counted_init, i_Counted_init, kc_Counted⟩, f_Counted_begin := f_Counted_begin, d_Counted_begin := _, F_Counted_begin := F_Counted_begin, b_Counted_begin := b_Counted_begin, p_Counted_begin := p_Counted_begin, pr_Counted_begin := ⟨a_Counted_begin, ps_Counted_begin, pt_Counted_begin, ⟨_, pr_Counted_begin⟩⟩, f_Counted_firsts := f_Counted_firsts, d_Counted_firsts := _, F_Counted_firsts := F_Counted_firsts, b_Counted_firsts := b_Counted_firsts, p_Counted_firsts := p_Counted_firsts, pr_Counted_firsts := ⟨a_Counted_firsts, ps_Counted_firsts, pt_Counted_firsts, ⟨_, pr_Counted_firsts⟩⟩, f_Counted_poly := f_Counted_poly, d_Counted_poly := _, F_Counted_poly := F_Counted_poly, b_Counted_poly := b_Counted_poly, p_Counted_poly := p_Counted_poly, pr_Counted_poly := ⟨a_Counted_poly, ps_Counted_poly, pt_Counted_poly, ⟨_, pr_Counted_poly⟩⟩, f_Counted_getitem := f_Counted_getitem, d_Counted_getitem := _, F_Counted_getitem := F_Counted_getitem, b_Counted_getitem := b_Counted_getitem, fn_Counted_getitem := fn_Counted_getitem, me_Counted_getitem := ⟨a_Counted_getitem, i_Counted_getitem, k_Counted_getitem⟩, f_Counted_rshift := f_Counted_rshift, d_Counted_rshift := _, F_Counted_rshift := F_Counted_rshift, b_Counted_rshift := b_Counted_rshift, me_Counted_rshift := ⟨a_Counted_rshift, i_Counted_rshift, k_Counted_rshift⟩, f_law_deck := f_law_deck, d_law_deck := _, F_law_deck := F_law_deck, b_law_deck := b_law_deck, g_law_deck := PySem.W.mg_of X G a_law_deck, f_law_draw := f_law_draw, d_law_draw := _, F_law_draw := F_law_draw, b_law_draw := b_law_draw, g_law_draw := PySem.W.mg_of X G a_law_draw, f_law_great := f_law_great, d_law_great := _, F_law_great := F_law_great, b_law_great := b_law_great, g_law_great := PySem.W.mg_of X G a_law_great, f_law_list := f_law_list, d_law_list := _, F_law_list := F_law_list, b_law_list := b_law_list, g_law_list := PySem.W.mg_of X G a_law_list, f_law_value := f_law_value, d_law_value := _, F_law_value := F_law_value, b_law_value := b_law_value, g_law_value := PySem.W.mg_of X G a_law_value, f_law_lists := f_law_lists, d_law_lists := _, F_law_lists := F_law_lists, b_law_lists := b_law_lists, g_law_lists := PySem.W.mg_of X G a_law_lists, f_law_numbers := f_law_numbers, d_law_numbers := _, F_law_numbers := F_law_numbers, b_law_numbers := b_law_numbers, g_law_numbers := PySem.W.mg_of X G a_law_numbers, f_law_told_right := f_law_told_right, d_law_told_right := _, F_law_told_right := F_law_told_right, b_law_told_right := b_law_told_right, g_law_told_right := PySem.W.mg_of X G a_law_told_right, f_law_refused := f_law_refused, d_law_refused := _, F_law_refused := F_law_refused, b_law_refused := b_law_refused, g_law_refused := PySem.W.mg_of X G a_law_refused, f_law_followed := f_law_followed, d_law_followed := _, F_law_followed := F_law_followed, b_law_followed := b_law_followed, g_law_followed := PySem.W.mg_of X G a_law_followed, f_law := fa, d_law := _, F_law := F_law, b_law := b_law, g_law := PySem.W.mg_of X G a_law, m_all := PySem.W.mg_none_of X G z_all, m_bool := PySem.W.mg_none_of X G z_bool, m_enumerate := PySem.W.mg_none_of X G z_enumerate, m_int := PySem.W.mg_none_of X G z_int, m_isinstance := PySem.W.mg_none_of X G z_isinstance, m_len := PySem.W.mg_none_of X G z_len, m_list := PySem.W.mg_none_of X G z_list, m_range := PySem.W.mg_none_of X G z_range, m_sum := PySem.W.mg_none_of X G z_sum, m_zip := PySem.W.mg_none_of X G z_zip, m_comb := PySem.W.mg_of X G y_comb, m_zip_longest := PySem.W.mg_of X G y_zip_longest, sf_Counted := sf_Counted, xa_Counted := xa_Counted, xn_Counted := xn_Counted, xt_Counted := xt_Counted, xm_Counted := xm_Counted }
  exact ⟨PySem.W.fnOf "law" "law" (defArgs s_law) (defBody s_law) (defScope s_law) .none kV_law dc_law pm_law an_law cd_law ct_law, fun s v => .of_eq rfl, fun base _ _ => ok_law T⟩
end K76
open PySem PySem.W PyProof.Rows
set_option maxHeartbeats 0 in
theorem PySem.Challenge.cw_plandays_k76_steps_of_one_and_then_the_o_holds : PySem.Challenge.rw_plandays_k76_steps_of_one_and_then_the_o.Holds := by
  w_on; o_law; k_head; (case hw => w_witness2)
  k_fill
  refine L2.walk_of (l := PySem.Challenge.rw_plandays_k76_steps_of_one_and_then_the_o) (n := 63) (k := 9) (x := "script") (CX := fun _ => L2.CX0) (sp := fun w => K76.spLaw _) rfl (by decide) rfl ⟨rfl, by decide, by decide⟩ (fun w h Y => PySem.W.kIn_of Y) ?F (fun _ _ a ns hl _ hS => ⟨a, ns, rfl, hS, hl, fun _ => rfl⟩) (fun _ _ _ _ _ h => h)
  case F =>
    intro w mg fa h KX G hmg
    refine' K76.all_mk KX G hmg ?aC_Counted ?pg_Counted ?hd_Counted ?po_Counted ?sa_Counted ?ms_Counted ?kc_Counted ?n_Counted_poly ?n_Counted_firsts ?aC_InvalidNumber ?eC_InvalidNumber ?tC_InvalidNumber ?hC_InvalidNumber ?xL_InvalidNumber ?sa_InvalidNumber ?ga_InvalidNumber ?gt_InvalidNumber ?nv_InvalidNumber ?ic_InvalidNumber ?kC_InvalidNumber ?aC_PlanError ?eC_PlanError ?tC_PlanError ?hC_PlanError ?ti ?sb_InvalidNumber_InvalidNumber ?l_PlanError_init ?c_PlanError_init ?k_PlanError_init ?a_value_at ?l_value_at ?c_value_at ?k_value_at ?a_without_zeros ?l_without_zeros ?c_without_zeros ?k_without_zeros ?a_differences_of ?l_differences_of ?c_differences_of ?k_differences_of ?a_one_earlier ?l_one_earlier ?c_one_earlier ?k_one_earlier ?a_polynomial_through ?l_polynomial_through ?c_polynomial_through ?k_polynomial_through ?a_least_begin ?l_least_begin ?c_least_begin ?k_least_begin ?a_one_after_other ?l_one_after_other ?c_one_after_other ?k_one_after_other ?a_Counted_init ?i_Counted_init ?l_Counted_init ?c_Counted_init ?k_Counted_init ?a_Counted_begin ?ps_Counted_begin ?pt_Counted_begin ?pr_Counted_begin ?l_Counted_begin ?c_Counted_begin ?k_Counted_begin ?a_Counted_firsts ?ps_Counted_firsts ?pt_Counted_firsts ?pr_Counted_firsts ?l_Counted_firsts ?c_Counted_firsts ?k_Counted_firsts ?a_Counted_poly ?ps_Counted_poly ?pt_Counted_poly ?pr_Counted_poly ?l_Counted_poly ?c_Counted_poly ?k_Counted_poly ?a_Counted_getitem ?i_Counted_getitem ?l_Counted_getitem ?c_Counted_getitem ?k_Counted_getitem ?fn_Counted_getitem ?a_Counted_rshift ?i_Counted_rshift ?l_Counted_rshift ?c_Counted_rshift ?k_Counted_rshift ?a_law_deck ?l_law_deck ?c_law_deck ?k_law_deck ?a_law_draw ?l_law_draw ?c_law_draw ?k_law_draw ?a_law_great ?l_law_great ?c_law_great ?k_law_great ?a_law_list ?l_law_list ?c_law_list ?k_law_list ?a_law_value ?l_law_value ?c_law_value ?k_law_value ?a_law_lists ?l_law_lists ?c_law_lists ?k_law_lists ?a_law_numbers ?l_law_numbers ?c_law_numbers ?k_law_numbers ?a_law_told_right ?l_law_told_right ?c_law_told_right ?k_law_told_right ?a_law_refused ?l_law_refused ?c_law_refused ?k_law_refused ?a_law_followed ?l_law_followed ?c_law_followed ?k_law_followed ?a_law ?l_law ?c_law ?k_law ?z_all ?z_bool ?z_enumerate ?z_int ?z_isinstance ?z_len ?z_list ?z_range ?z_sum ?z_zip ?y_comb ?y_zip_longest ?sf_Counted ?xa_Counted ?xn_Counted ?xt_Counted ?xm_Counted
    (case aC_Counted => k_is)
    (case pg_Counted => k_is)
    (case hd_Counted => k_is)
    (case po_Counted => k_is)
    (case sa_Counted => k_is)
    (case ms_Counted => k_is)
    (case kc_Counted => k_is)
    (case n_Counted_poly => k_is)
    (case n_Counted_firsts => k_is)
    (case aC_InvalidNumber => k_is)
    (case eC_InvalidNumber => k_is)
    (case tC_InvalidNumber => k_is)
    (case hC_InvalidNumber => k_is)
    (case xL_InvalidNumber => k_is)
    (case sa_InvalidNumber => k_is)
    (case ga_InvalidNumber => k_is)
    (case gt_InvalidNumber => k_is)
    (case nv_InvalidNumber => k_is)
    (case ic_InvalidNumber => k_is)
    (case kC_InvalidNumber => k_is)
    (case aC_PlanError => k_is)
    (case eC_PlanError => k_is)
    (case tC_PlanError => k_is)
    (case hC_PlanError => k_is)
    (case ti => k_is)
    (case sb_InvalidNumber_InvalidNumber => first | rfl | k_is)
    (case l_PlanError_init => k_is)
    (case c_PlanError_init => k_is)
    (case k_PlanError_init => k_is)
    (case a_value_at => k_is)
    (case l_value_at => k_is)
    (case c_value_at => k_is)
    (case k_value_at => k_is)
    (case a_without_zeros => k_is)
    (case l_without_zeros => k_is)
    (case c_without_zeros => k_is)
    (case k_without_zeros => k_is)
    (case a_differences_of => k_is)
    (case l_differences_of => k_is)
    (case c_differences_of => k_is)
    (case k_differences_of => k_is)
    (case a_one_earlier => k_is)
    (case l_one_earlier => k_is)
    (case c_one_earlier => k_is)
    (case k_one_earlier => k_is)
    (case a_polynomial_through => k_is)
    (case l_polynomial_through => k_is)
    (case c_polynomial_through => k_is)
    (case k_polynomial_through => k_is)
    (case a_least_begin => k_is)
    (case l_least_begin => k_is)
    (case c_least_begin => k_is)
    (case k_least_begin => k_is)
    (case a_one_after_other => k_is)
    (case l_one_after_other => k_is)
    (case c_one_after_other => k_is)
    (case k_one_after_other => k_is)
    (case a_Counted_init => k_is)
    (case i_Counted_init => k_is)
    (case l_Counted_init => k_is)
    (case c_Counted_init => k_is)
    (case k_Counted_init => k_is)
    (case a_Counted_begin => k_is)
    (case ps_Counted_begin => k_is)
    (case pt_Counted_begin => k_is)
    (case pr_Counted_begin => k_is)
    (case l_Counted_begin => k_is)
    (case c_Counted_begin => k_is)
    (case k_Counted_begin => k_is)
    (case a_Counted_firsts => k_is)
    (case ps_Counted_firsts => k_is)
    (case pt_Counted_firsts => k_is)
    (case pr_Counted_firsts => k_is)
    (case l_Counted_firsts => k_is)
    (case c_Counted_firsts => k_is)
    (case k_Counted_firsts => k_is)
    (case a_Counted_poly => k_is)
    (case ps_Counted_poly => k_is)
    (case pt_Counted_poly => k_is)
    (case pr_Counted_poly => k_is)
    (case l_Counted_poly => k_is)
    (case c_Counted_poly => k_is)
    (case k_Counted_poly => k_is)
    (case a_Counted_getitem => k_is)
    (case i_Counted_getitem => k_is)
    (case l_Counted_getitem => k_is)
    (case c_Counted_getitem => k_is)
    (case k_Counted_getitem => k_is)
    (case fn_Counted_getitem => k_is)
    (case a_Counted_rshift => k_is)
    (case i_Counted_rshift => k_is)
    (case l_Counted_rshift => k_is)
    (case c_Counted_rshift => k_is)
    (case k_Counted_rshift => k_is)
    (case a_law_deck => k_is)
    (case l_law_deck => k_is)
    (case c_law_deck => k_is)
    (case k_law_deck => k_is)
    (case a_law_draw => k_is)
    (case l_law_draw => k_is)
    (case c_law_draw => k_is)
    (case k_law_draw => k_is)
    (case a_law_great => k_is)
    (case l_law_great => k_is)
    (case c_law_great => k_is)
    (case k_law_great => k_is)
    (case a_law_list => k_is)
    (case l_law_list => k_is)
    (case c_law_list => k_is)
    (case k_law_list => k_is)
    (case a_law_value => k_is)
    (case l_law_value => k_is)
    (case c_law_value => k_is)
    (case k_law_value => k_is)
    (case a_law_lists => k_is)
    (case l_law_lists => k_is)
    (case c_law_lists => k_is)
    (case k_law_lists => k_is)
    (case a_law_numbers => k_is)
    (case l_law_numbers => k_is)
    (case c_law_numbers => k_is)
    (case k_law_numbers => k_is)
    (case a_law_told_right => k_is)
    (case l_law_told_right => k_is)
    (case c_law_told_right => k_is)
    (case k_law_told_right => k_is)
    (case a_law_refused => k_is)
    (case l_law_refused => k_is)
    (case c_law_refused => k_is)
    (case k_law_refused => k_is)
    (case a_law_followed => k_is)
    (case l_law_followed => k_is)
    (case c_law_followed => k_is)
    (case k_law_followed => k_is)
    (case a_law => k_is)
    (case l_law => k_is)
    (case c_law => k_is)
    (case k_law => k_is)
    (case z_all => k_is)
    (case z_bool => k_is)
    (case z_enumerate => k_is)
    (case z_int => k_is)
    (case z_isinstance => k_is)
    (case z_len => k_is)
    (case z_list => k_is)
    (case z_range => k_is)
    (case z_sum => k_is)
    (case z_zip => k_is)
    (case y_comb => k_is)
    (case y_zip_longest => k_is)
    (case sf_Counted => k_is)
    (case xa_Counted => k_is)
    (case xn_Counted => k_is)
    (case xt_Counted => k_is)
    (case xm_Counted => k_is)

