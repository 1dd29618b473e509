import PyProof.Rows.All
import Wide.All
import OpenK.AllK
import Wide.FinOn
import HandS.ForMost
import HandS.Wide
import HandS.Gcd
import HandS.SetFor
import HandS.IsInst
import HandS.Codes
import HandS.Defaults
import KE.KMathGC
import Flt.Len
import PySem.Challenge.RW_plandays_k15_lists_with_a_pattern
set_option Elab.async false
set_option linter.all false
set_option maxRecDepth 100000
/-! Law k15: lists with a pattern. The mathematics first, then one promise a def. -/
namespace K15
open PySem
abbrev fp := Builtin.Math.fallingProduct
def gb : Nat → Nat → Nat
  | 0, _ => 1
  | _+1, 0 => 1
  | s+1, j+1 => gb s (j+1) + gb (s+1) j
theorem gb_r (s : Nat) : gb s 0 = 1 := by cases s <;> simp [gb]
theorem gb_l (j : Nat) : gb 0 j = 1 := by simp [gb]
theorem gb_s (s j : Nat) : gb (s+1) (j+1) = gb s (j+1) + gb (s+1) j := by rw [gb]
theorem gb_comm : ∀ (s j : Nat), gb s j = gb j s
  | 0, j => by rw [gb_l, gb_r]
  | s+1, 0 => by rw [gb_l, gb_r]
  | s+1, j+1 => by rw [gb_s, gb_s, gb_comm s (j+1), gb_comm (s+1) j, Nat.add_comm]
theorem fp_head (n : Int) : ∀ k : Nat, fp (n+1) (k+1) = (n+1) * fp n k
  | 0 => by
    show Builtin.Math.fallingProduct (n+1) 1 = (n+1) * Builtin.Math.fallingProduct n 0
    rw [W.mc_fp_one, W.mc_fp_zero, Int.mul_one]
  | k+1 => by
    have ih := fp_head n k
    show Builtin.Math.fallingProduct (n+1) (k+1+1) = (n+1) * Builtin.Math.fallingProduct n (k+1)
    rw [W.mc_fp_succ (n+1) (k+1), W.mc_fp_succ n k]
    have ih' : Builtin.Math.fallingProduct (n+1) (k+1) = (n+1) * Builtin.Math.fallingProduct n k := ih
    rw [ih', show n + 1 - ((k+1 : Nat) : Int) = n - (k : Int) by omega, Int.mul_assoc]
theorem fct_succ (k : Nat) : fp ((k+1 : Nat) : Int) (k+1) = ((k : Int)+1) * fp k k := fp_head (k : Int) k
theorem fp_gb : ∀ (s j : Nat), fp ((s : Int) + j) j = (gb s j : Int) * fp j j
  | 0, j => by
    rw [gb_l, show ((0 : Nat) : Int) + (j : Int) = (j : Int) by omega]
    show fp j j = (1 : Int) * fp j j
    rw [Int.one_mul]
  | s+1, 0 => by
    rw [gb_r]
    rfl
  | s+1, j+1 => by
    have h1 := fp_gb s (j+1)
    have h2 := fp_gb (s+1) j
    have h3 : fp (((s+1 : Nat) : Int) + ((j+1 : Nat) : Int)) (j+1) = ((s : Int) + j + 1 + 1) * fp ((s : Int) + j + 1) j := by
      rw [show ((s+1 : Nat) : Int) + ((j+1 : Nat) : Int) = ((s : Int) + j + 1) + 1 by omega]
      exact fp_head _ _
    have h4 : fp ((s : Int) + ((j+1 : Nat) : Int)) (j+1) = fp ((s : Int) + j + 1) j * ((s : Int) + 1) := by
      rw [show (s : Int) + ((j+1 : Nat) : Int) = (s : Int) + j + 1 by omega]
      show Builtin.Math.fallingProduct ((s : Int) + j + 1) (j+1) = _
      rw [W.mc_fp_succ, show (s : Int) + j + 1 - (j : Int) = (s : Int) + 1 by omega]
    rw [show ((s+1 : Nat) : Int) + (j : Int) = (s : Int) + j + 1 by omega] at h2
    rw [h3, gb_s, fct_succ]
    rw [h4, fct_succ] at h1
    rw [show ((gb s (j+1) + gb (s+1) j : Nat) : Int) = (gb s (j+1) : Int) + (gb (s+1) j : Int) by omega]
    generalize fp ((s : Int) + j + 1) j = A at *
    generalize fp (j : Int) j = B at *
    generalize (gb s (j+1) : Int) = C at *
    generalize (gb (s+1) j : Int) = D at *
    grind
theorem fct_pos (k : Nat) : 1 ≤ fp (k : Int) k := W.mc_fp_pos k (Int.le_refl _)
theorem comb_val (s j : Nat) : fp ((s : Int) + j) (min (j : Int) ((s : Int) + j - j)).toNat / fp (min (j : Int) ((s : Int) + j - j)) (min (j : Int) ((s : Int) + j - j)).toNat = gb s j := by
  by_cases h : j ≤ s
  · rw [show min (j : Int) ((s : Int) + j - j) = j by omega, Int.toNat_natCast, fp_gb]
    have := fct_pos j
    exact Int.mul_ediv_cancel _ (by omega)
  · rw [show min (j : Int) ((s : Int) + j - j) = s by omega, Int.toNat_natCast, Int.add_comm, fp_gb, gb_comm s j]
    have := fct_pos s
    exact Int.mul_ediv_cancel _ (by omega)
theorem fp_abs {n : Int} (h0 : 0 ≤ n) (hn : n < 2 ^ 110) (k : Nat) : (k : Int) ≤ n → (fp n k).natAbs ≤ 2 ^ (110 * k) := by
  induction k with
  | zero => intro _; show (1 : Int).natAbs ≤ 2 ^ (110 * 0); decide
  | succ k ih =>
    intro h
    show (Builtin.Math.fallingProduct n (k+1)).natAbs ≤ _
    rw [W.mc_fp_succ, Int.natAbs_mul, show 110 * (k + 1) = 110 * k + 110 from rfl, Nat.pow_add]
    exact Nat.mul_le_mul (ih (by omega)) (by omega)
theorem gb_size {s j : Nat} (hs : (s : Int) < 2 ^ 109) (hj : j ≤ 64) : ((gb s j : Nat) : Int).natAbs.log2 < bitsLine := by
  have h1 := fp_gb s j
  have h2 := fct_pos j
  have h3 := fp_abs (n := (s : Int) + j) (by omega) (by omega) j (by omega)
  have h4 : (gb s j : Int) ≤ fp ((s : Int) + j) j := by
    rw [h1]
    have := Int.mul_le_mul_of_nonneg_left h2 (show (0 : Int) ≤ (gb s j : Int) by omega)
    omega
  have h5 : (gb s j : Int).natAbs ≤ 2 ^ (110 * j) := by omega
  have h6 : (2 : Nat) ^ (110 * j) < 2 ^ 7050 := Nat.pow_lt_pow_right (by decide) (by omega)
  have h7 : ((gb s j : Nat) : Int).natAbs.log2 < 7050 := PySem.Flt.log2_lt_of (by decide) (Nat.lt_of_le_of_lt h5 h6)
  have : bitsLine = 134217728 := by decide
  omega
/-- how many lists of days there are, by the free days and the free places -/
def pf (s f : Int) : Int := if s < 0 then 0 else if f = 0 then (if s = 0 then 1 else 0) else (gb s.toNat (f - 1).toNat : Int)
theorem pf_neg {s f : Int} (h : s < 0) : pf s f = 0 := by unfold pf; rw [if_pos h]
theorem pf_none {s : Int} (h : 0 ≤ s) : pf s 0 = if s = 0 then 1 else 0 := by unfold pf; rw [if_neg (by omega), if_pos rfl]
theorem pf_some (a b : Nat) : pf (a : Int) ((b : Int) + 1) = gb a b := by
  unfold pf
  rw [if_neg (by omega), if_neg (by omega), show (b : Int) + 1 - 1 = (b : Int) by omega, Int.toNat_natCast, Int.toNat_natCast]
theorem pf_pascal {s f : Int} (hf : 1 ≤ f) : pf s f = pf (s - 1) f + pf s (f - 1) := by
  obtain ⟨b, hb⟩ := Int.eq_ofNat_of_zero_le (show 0 ≤ f - 1 by omega)
  obtain rfl : f = (b : Int) + 1 := by omega
  rw [show (b : Int) + 1 - 1 = b by omega]
  by_cases h : s < 0
  · rw [pf_neg h, pf_neg (show s - 1 < 0 by omega), pf_neg h]; rfl
  · obtain ⟨a, rfl⟩ := Int.eq_ofNat_of_zero_le (show 0 ≤ s by omega)
    rw [pf_some]
    cases a with
    | zero =>
      rw [gb_l, pf_neg (by omega)]
      cases b with
      | zero => rw [show ((0 : Nat) : Int) = 0 from rfl, pf_none (by omega)]; rfl
      | succ e => rw [show ((e + 1 : Nat) : Int) = (e : Int) + 1 by omega, pf_some, gb_l]; rfl
    | succ c =>
      rw [show ((c + 1 : Nat) : Int) - 1 = (c : Int) by omega, pf_some]
      cases b with
      | zero => rw [show ((0 : Nat) : Int) = 0 from rfl, pf_none (by omega), if_neg (by omega), gb_r, gb_r]; rfl
      | succ e => rw [show ((e + 1 : Nat) : Int) = (e : Int) + 1 by omega, pf_some, gb_s]; omega
theorem pf_one {f : Int} : pf 0 f = 1 := by
  unfold pf
  rw [if_neg (by omega)]
  by_cases h : f = 0
  · rw [if_pos h, if_pos rfl]
  · rw [if_neg h, show (0 : Int).toNat = 0 from rfl, gb_l]; rfl
theorem gb_step (s k : Nat) : (gb s k : Int) * ((s : Int) + 1 + k) = gb s (k+1) * ((k : Int) + 1) := by
  have h1 := fp_gb s (k+1)
  have h2 := fp_head ((s : Int) + k) k
  have h3 := fct_pos k
  have h4 := fp_gb s k
  rw [show (s : Int) + ((k+1 : Nat) : Int) = (s : Int) + k + 1 by omega, fct_succ, h2, h4] at h1
  generalize fp (k : Int) k = F at *
  generalize (gb s k : Int) = C at *
  generalize (gb s (k+1) : Int) = D at *
  apply Int.eq_of_mul_eq_mul_right (show F ≠ 0 by omega)
  grind
theorem gb_next (s k : Nat) : (gb s k : Int) * ((s : Int) + 1 + k) / ((k : Int) + 1) = gb s (k+1) := by
  rw [gb_step]
  exact Int.mul_ediv_cancel _ (by omega)
theorem gb_log {s j : Nat} (hs : (s : Int) < 2 ^ 109) (hj : j ≤ 64) : ((gb s j : Nat) : Int).natAbs.log2 < 7050 := by
  have h1 := fp_gb s j
  have h2 := fct_pos j
  have h3 := fp_abs (n := (s : Int) + j) (by omega) (by omega) j (by omega)
  have h4 : (gb s j : Int) ≤ fp ((s : Int) + j) j := by
    rw [h1]
    have := Int.mul_le_mul_of_nonneg_left h2 (show (0 : Int) ≤ (gb s j : Int) by omega)
    omega
  have h5 : (gb s j : Int).natAbs ≤ 2 ^ (110 * j) := by omega
  have h6 : (2 : Nat) ^ (110 * j) < 2 ^ 7050 := Nat.pow_lt_pow_right (by decide) (by omega)
  exact PySem.Flt.log2_lt_of (by decide) (Nat.lt_of_le_of_lt h5 h6)
end K15
namespace K15
open PySem PySem.Spec PyProof.Rows L2
/-! ### the text -/
def topS (i : Nat) : Stmt := PySem.Challenge.pw_plandays_k15_lists_with_a_pattern.main.body.getD i (.Pass ⟨0, 0, 0, 0⟩)
abbrev s_length_of : Stmt := topS 2
theorem sc_length_of : FnScope ["pattern", "start", "_", "steps", "end"] ["pattern"] (defScope s_length_of) := ⟨rfl, rfl, rfl, by decide +kernel, rfl, by decide +kernel, by decide +kernel⟩
abbrev s_freedom_of : Stmt := topS 3
theorem sc_freedom_of : FnScope ["pattern", "start", "_", "steps", "end"] ["pattern"] (defScope s_freedom_of) := ⟨rfl, rfl, rfl, by decide +kernel, rfl, by decide +kernel, by decide +kernel⟩
abbrev s_plans_with : Stmt := topS 4
theorem sc_plans_with : FnScope ["pattern", "n", "spare", "freedom"] ["pattern", "n"] (defScope s_plans_with) := ⟨rfl, rfl, rfl, by decide +kernel, rfl, by decide +kernel, by decide +kernel⟩
abbrev s_law_is_integer : Stmt := topS 6
theorem sc_law_is_integer : FnScope ["found"] ["found"] (defScope s_law_is_integer) := ⟨rfl, rfl, rfl, by decide +kernel, rfl, by decide +kernel, by decide +kernel⟩
abbrev s_law_spring : Stmt := topS 7
theorem sc_law_spring : FnScope ["cell", "low", "mixed", "k"] ["cell"] (defScope s_law_spring) := ⟨rfl, rfl, rfl, by decide +kernel, rfl, by decide +kernel, by decide +kernel⟩
abbrev s_law_draw : Stmt := topS 8
theorem sc_law_draw : FnScope ["spring", "many", "drawn"] ["spring", "many"] (defScope s_law_draw) := ⟨rfl, rfl, rfl, by decide +kernel, rfl, by decide +kernel, by decide +kernel⟩
abbrev s_law_shape : Stmt := topS 9
theorem sc_law_shape : FnScope ["spring", "groups", "steps", "k", "group", "entry"] ["spring"] (defScope s_law_shape) := ⟨rfl, rfl, rfl, by decide +kernel, rfl, by decide +kernel, by decide +kernel⟩
abbrev s_law_due : Stmt := topS 10
theorem sc_law_due : FnScope ["shape", "days", "slack", "freedom", "number", "k", "step"] ["shape", "days"] (defScope s_law_due) := ⟨rfl, rfl, rfl, by decide +kernel, rfl, by decide +kernel, by decide +kernel⟩
abbrev s_law_days : Stmt := topS 11
theorem sc_law_days : FnScope ["spring", "shape", "length", "way"] ["spring", "shape"] (defScope s_law_days) := ⟨rfl, rfl, rfl, by decide +kernel, rfl, by decide +kernel, by decide +kernel⟩
abbrev s_law : Stmt := topS 12
theorem sc_law : FnScope ["script", "cell", "spring", "shape", "days", "handed", "bare", "due", "found", "steps", "group", "k"] ["script"] (defScope s_law) := ⟨rfl, rfl, rfl, by decide +kernel, rfl, by decide +kernel, by decide +kernel⟩
/-- what the top has written, as the walks ask it -/
structure Tx (K : PySem.W.Frag) (mg : Str → Option Value) where
  f_length_of : Addr
  d_length_of : FuncData
  F_length_of : Fun K "length_of" "length_of" s_length_of f_length_of d_length_of
  b_length_of : Binds K d_length_of ["pattern"] []
  g_length_of : mg "length_of" = some (.ref f_length_of)
  f_freedom_of : Addr
  d_freedom_of : FuncData
  F_freedom_of : Fun K "freedom_of" "freedom_of" s_freedom_of f_freedom_of d_freedom_of
  b_freedom_of : Binds K d_freedom_of ["pattern"] []
  g_freedom_of : mg "freedom_of" = some (.ref f_freedom_of)
  f_plans_with : Addr
  d_plans_with : FuncData
  F_plans_with : Fun K "plans_with" "plans_with" s_plans_with f_plans_with d_plans_with
  b_plans_with : Binds K d_plans_with ["pattern", "n"] []
  g_plans_with : mg "plans_with" = some (.ref f_plans_with)
  f_law_is_integer : Addr
  d_law_is_integer : FuncData
  F_law_is_integer : Fun K "_law_is_integer" "_law_is_integer" s_law_is_integer f_law_is_integer d_law_is_integer
  b_law_is_integer : Binds K d_law_is_integer ["found"] []
  g_law_is_integer : mg "_law_is_integer" = some (.ref f_law_is_integer)
  f_law_spring : Addr
  d_law_spring : FuncData
  F_law_spring : Fun K "_law_spring" "_law_spring" s_law_spring f_law_spring d_law_spring
  b_law_spring : Binds K d_law_spring ["cell"] []
  g_law_spring : mg "_law_spring" = some (.ref f_law_spring)
  f_law_draw : Addr
  d_law_draw : FuncData
  F_law_draw : Fun K "_law_draw" "_law_draw" s_law_draw f_law_draw d_law_draw
  b_law_draw : Binds K d_law_draw ["spring", "many"] []
  g_law_draw : mg "_law_draw" = some (.ref f_law_draw)
  f_law_shape : Addr
  d_law_shape : FuncData
  F_law_shape : Fun K "_law_shape" "_law_shape" s_law_shape f_law_shape d_law_shape
  b_law_shape : Binds K d_law_shape ["spring"] []
  g_law_shape : mg "_law_shape" = some (.ref f_law_shape)
  f_law_due : Addr
  d_law_due : FuncData
  F_law_due : Fun K "_law_due" "_law_due" s_law_due f_law_due d_law_due
  b_law_due : Binds K d_law_due ["shape", "days"] []
  g_law_due : mg "_law_due" = some (.ref f_law_due)
  f_law_days : Addr
  d_law_days : FuncData
  F_law_days : Fun K "_law_days" "_law_days" s_law_days f_law_days d_law_days
  b_law_days : Binds K d_law_days ["spring", "shape"] []
  g_law_days : mg "_law_days" = some (.ref f_law_days)
  f_law : Addr
  d_law : FuncData
  F_law : Fun K "law" "law" s_law f_law d_law
  b_law : Binds K d_law ["script"] []
  g_law : mg "law" = some (.ref f_law)
  m_bool : mg "bool" = none
  m_int : mg "int" = none
  m_isinstance : mg "isinstance" = none
  m_len : mg "len" = none
  m_list : mg "list" = none
  m_range : mg "range" = none
  m_sum : mg "sum" = none
  m_comb : mg "comb" = some (.builtin "math.comb")
/-! ### what the values are -/
/-- a pattern stands at t -/
def PatG (K : PySem.W.Frag) (H : Hp) (t : Addr) (st e : Int) (ss : List Int) : Prop :=
  ∃ g q, SqT K H t [.int st, .ref g, .ref q, .int e] ∧ SqL K H q (ss.map V.int)
structure Shp (st e : Int) (ss : List Int) : Prop where
  s0 : 0 ≤ st
  s1 : st ≤ 1
  e0 : 0 ≤ e
  e1 : e ≤ 1
  two : ∀ s ∈ ss, s = 1 ∨ s = 2
  few : ss.length ≤ 12
theorem sum_nn : ∀ {ss : List Int}, (∀ s ∈ ss, s = 1 ∨ s = 2) → 0 ≤ ss.sum
  | [], _ => Int.le_refl _
  | a :: r, h => by
    have h1 := h a List.mem_cons_self
    have h2 := sum_nn (ss := r) fun s hs => h s (List.mem_cons_of_mem _ hs)
    rw [List.sum_cons]
    omega
def len (st e : Int) (ss : List Int) : Int := 1 + st + ss.sum + e
def free (st e : Int) (ss : List Int) : Int := st + (ss.count 2 : Nat) + e
def many (st e : Int) (ss : List Int) (n : Int) : Int := pf (n - len st e ss) (free st e ss)
theorem free_nn {st e : Int} {ss : List Int} (h : Shp st e ss) : 0 ≤ free st e ss := by
  have := h.s0; have := h.e0
  unfold free; omega
theorem free_le {st e : Int} {ss : List Int} (h : Shp st e ss) : free st e ss ≤ 14 := by
  have := h.s1; have := h.e1
  have := List.count_le_length (a := (2 : Int)) (l := ss)
  have := h.few
  unfold free; omega
theorem len_pos {st e : Int} {ss : List Int} (h : Shp st e ss) : 1 ≤ len st e ss := by
  have := h.s0; have := h.e0; have := sum_nn h.two
  unfold len; omega
/-- all but p is as it was -/
def Kp (H H' : Hp) (p : Addr) : Prop := ∀ b o, H b = some o → b ≠ p → H' b = some o
theorem same_upd {H : Hp} {p : Addr} {o : HO} (h : H p = none) : Same H (upd H p o) := fun b x e => by
  rw [upd_ne (ne_of_none e h)]
  exact e
theorem Same.tup {K : PySem.W.Frag} {H H' : Hp} {a : Addr} {xs : List V} (e : Same H H') (h : SqT K H a xs) : SqT K H' a xs := by
  rcases h with (h | ⟨o, h⟩) | h
  · exact .inl (.inl (e _ _ h))
  · exact .inl (.inr ⟨o, e _ _ h⟩)
  · exact .inr h
theorem PatG.same {K : PySem.W.Frag} {H H' : Hp} {t : Addr} {st e : Int} {ss : List Int} (s : Same H H') (h : PatG K H t st e ss) : PatG K H' t st e ss := by
  obtain ⟨g, q, h1, h3⟩ := h
  exact ⟨g, q, Same.tup s h1, s.seq h3⟩
/-- the readings of list(..) and len(..), named -/
def rList (K : PySem.W.Frag) : List V → Hp → VK → Prop := fun xs H Q => ∃ p ys, xs = [.ref p] ∧ (SqL K H p ys ∨ SqT K H p ys) ∧ ∀ l, H l = none → Q (.ref l) (upd H l (.lst ys))
def rLen (K : PySem.W.Frag) : List V → Hp → VK → Prop := fun xs H Q => ∃ p ys, xs = [.ref p] ∧ (SqL K H p ys ∨ SqT K H p ys) ∧ Q (.int ys.length) H
/-! ### comb -/
def rComb : List V → Hp → VK → Prop := fun vs H Q => ∃ s j : Nat, vs = [.int ((s : Int) + j), .int j] ∧ j ≤ 64 ∧ (s : Int) < 2 ^ 109 ∧ Q (.int (gb s j : Nat)) H
theorem cr_comb {X : Cx} : CallR X (.builtin "math.comb") rComb := by
  intro pins s σ H vs us Q I r h
  obtain ⟨a, b, rfl, hb, ha, q⟩ := h
  obtain ⟨t, u, rfl⟩ := Vals.int2 r
  have hv := comb_val a b
  have hs : (fp ((a : Int) + b) (min (b : Int) ((a : Int) + b - b)).toNat / fp (min (b : Int) ((a : Int) + b - b)) (min (b : Int) ((a : Int) + b - b)).toNat).natAbs.log2 < bitsLine := by
    rw [hv]
    exact gb_size ha hb
  have h3 : ¬ min (b : Int) ((a : Int) + b - b) > Builtin.Math.maxSsize := by show ¬ min (b : Int) ((a : Int) + b - b) > 2 ^ 63 - 1; omega
  have h4 : ¬ min (b : Int) ((a : Int) + b - b) > Builtin.Math.manyFactors := by show ¬ min (b : Int) ((a : Int) + b - b) > 20000; omega
  have g := PySem.W.mc_run_comb ((a : Int) + b) t b u (by omega) (by omega) (by omega) h3 h4 (by omega) hs
  have g2 : Gives (Builtin.«math.comb» ⟨[.int ((a : Int) + b) t, .int b u], []⟩) (.int (gb a b : Nat)) := by
    rw [← hv]
    exact g
  exact call_function_meets PySem.W.MGF.kind_comb PySem.W.MGF.plain_comb PySem.W.MGF.entry_comb (PySem.W.MGF.args_comb _ _) g2.meets ⟨.int _, H, I.tok _, ⟨_, rfl⟩, q⟩
section
variable {P : Program} {w : World} {K : PySem.W.Frag} {mg : Str → Option Value} {base : Heap}
/-! ### the program's defs -/
def sp_len (K : PySem.W.Frag) : Sp := fun vs H Q _ => ∃ t st e ss, vs = [.ref t] ∧ PatG K H t st e ss ∧ Q (.int (len st e ss)) H
theorem ok_length_of (T : Tx K mg) : FnOk P w K mg base CX0 1 T.f_length_of T.d_length_of ["pattern"] (sp_len K) := by
  refine T.F_length_of.ok sc_length_of (fun vs H Q E h => ?_) (fun cdv A outer s H vs Q E hr h => ?_)
  · obtain ⟨t, st, e, ss, rfl, _⟩ := h
    rfl
  · obtain ⟨t, st, e, ss, rfl, ⟨g, q, hT, hq⟩, k⟩ := h
    refine ⟨_,
    (pss_cons
      (ps_asg (pv 0) (pg_tup (by rfl) (pgs_cons (pg_name (i := 1) sc_length_of.nd rfl (.inl rfl)) (pgs_cons (pg_name (i := 2) sc_length_of.nd rfl (.inl rfl)) (pgs_cons (pg_name (i := 3) sc_length_of.nd rfl (.inl rfl)) (pgs_cons (pg_name (i := 4) sc_length_of.nd rfl (.inl rfl)) pgs_nil))))))
    (pss_one
      (ps_ret (pe_op op_add (pe_op op_add (pe_op op_add pe_int (pv 1)) (pe_callB (cr_sum rfl) (by rfl) T.m_sum (by decide +kernel) (pa_cons (pv 3) pa_nil))) (pv 4))))), ?_⟩
    refine ⟨_, rfl, t, _, rfl, hT, rfl, _, _, rfl, _, _, rfl, _, _, rfl, _, _, rfl, rfl, ?_⟩
    exact ⟨_, rfl, _, _, rfl, rfl, _, rfl, q, ss, rfl, hq, _, _, rfl, rfl, _, rfl, _, _, rfl, rfl, k⟩
def sp_free (K : PySem.W.Frag) : Sp := fun vs H Q _ => ∃ t st e ss, vs = [.ref t] ∧ PatG K H t st e ss ∧ Q (.int (free st e ss)) H
theorem ok_freedom_of (T : Tx K mg) : FnOk P w K mg base CX0 1 T.f_freedom_of T.d_freedom_of ["pattern"] (sp_free K) := by
  refine T.F_freedom_of.ok sc_freedom_of (fun vs H Q E h => ?_) (fun cdv A outer s H vs Q E hr h => ?_)
  · obtain ⟨t, st, e, ss, rfl, _⟩ := h
    rfl
  · obtain ⟨t, st, e, ss, rfl, ⟨g, q, hT, hq⟩, k⟩ := h
    refine ⟨_,
    (pss_cons
      (ps_asg (pv 0) (pg_tup (by rfl) (pgs_cons (pg_name (i := 1) sc_freedom_of.nd rfl (.inl rfl)) (pgs_cons (pg_name (i := 2) sc_freedom_of.nd rfl (.inl rfl)) (pgs_cons (pg_name (i := 3) sc_freedom_of.nd rfl (.inl rfl)) (pgs_cons (pg_name (i := 4) sc_freedom_of.nd rfl (.inl rfl)) pgs_nil))))))
    (pss_one
      (ps_ret (pe_op op_add (pe_op op_add (pv 1) (pe_bm PySem.F.plainAttrs_list PySem.F.slot_list_count PySem.F.type_list_count mt_lcount (pv 3) (pa_cons pe_int pa_nil))) (pv 4))))), ?_⟩
    refine ⟨_, rfl, t, _, rfl, hT, rfl, _, _, rfl, _, _, rfl, _, _, rfl, _, _, rfl, rfl, ?_⟩
    exact ⟨_, rfl, _, rfl, .inl ⟨rfl, _, hq⟩, q, ss, 2, rfl, rfl, hq, _, _, rfl, rfl, _, rfl, _, _, rfl, rfl, k⟩
def sp_with (K : PySem.W.Frag) : Sp := fun vs H Q _ => ∃ t st e ss n, vs = [.ref t, .int n] ∧ PatG K H t st e ss ∧ Shp st e ss ∧ n < 2 ^ 100 ∧ Q (.int (many st e ss n)) H
theorem ok_plans_with (T : Tx K mg) : FnOk P w K mg base CX0 2 T.f_plans_with T.d_plans_with ["pattern", "n"] (sp_with K) := by
  refine T.F_plans_with.ok sc_plans_with (fun vs H Q E h => ?_) (fun cdv A outer s H vs Q E hr h => ?_)
  · obtain ⟨t, st, e, ss, n, rfl, _⟩ := h
    rfl
  · obtain ⟨t, st, e, ss, n, rfl, hP, hS, hn, k⟩ := h
    refine ⟨_,
    (pss_cons
      (ps_set (i := 2) sc_plans_with.nd rfl (.inl rfl) (pe_op op_sub (pv 1) (pe_call (ok_length_of T) hr (by rfl) T.g_length_of T.F_length_of.kp T.b_length_of .nil pass0 (pa_cons (pv 0) pa_nil))))
    (pss_cons
      (ps_set (i := 3) sc_plans_with.nd rfl (.inl rfl) (pe_call (ok_freedom_of T) hr (by rfl) T.g_freedom_of T.F_freedom_of.kp T.b_freedom_of .nil pass0 (pa_cons (pv 0) pa_nil)))
    (pss_cons
      (ps_if (pt_cmpR op_lt (pv 2) pe_int (nomark _))
        (pss_one
          (ps_ret pe_int))
        pss_nil)
    (pss_cons
      (ps_if (pt_cmpR op_eq (pv 3) pe_int (nomark _))
        (pss_one
          (ps_ret (pe_ifExp (pt_cmpR op_eq (pv 2) pe_int (nomark _)) pe_int pe_int)))
        pss_nil)
    (pss_one
      (ps_ret (pe_callBfun cr_comb (by rfl) T.m_comb (pa_cons (pe_op op_sub (pe_op op_add (pv 2) (pv 3)) pe_int) (pa_cons (pe_op op_sub (pv 3) pe_int) pa_nil))))))))), ?_⟩
    refine ⟨_, rfl, _, rfl, t, st, e, ss, rfl, hP, _, _, rfl, rfl, ?_⟩
    refine ⟨_, rfl, t, st, e, ss, rfl, hP, ?_⟩
    have hl := len_pos hS
    have hf := free_nn hS
    have hf2 := free_le hS
    unfold many at k
    refine ⟨_, rfl, _, _, rfl, rfl, _, rfl, ite2 (fun c => ?_) (fun c => ?_)⟩
    · rw [pf_neg (of_decide_eq_true c)] at k
      exact k
    · have c0 : ¬ n - len st e ss < 0 := fun z => c (decide_eq_true z)
      refine ⟨_, rfl, rfl, _, rfl, ite2 (fun c => ?_) (fun c => ?_)⟩
      · have c1 : free st e ss = 0 := V.int.inj (of_decide_eq_true c)
        rw [c1, pf_none (by omega)] at k
        refine ⟨_, rfl, rfl, _, rfl, ite2 (fun c => ?_) (fun c => ?_)⟩
        · rw [if_pos (V.int.inj (of_decide_eq_true c))] at k
          exact k
        · rw [if_neg (fun z => c (decide_eq_true (congrArg V.int z)))] at k
          exact k
      · have c1 : free st e ss ≠ 0 := fun z => c (decide_eq_true (congrArg V.int z))
        obtain ⟨a, ha⟩ := Int.eq_ofNat_of_zero_le (show 0 ≤ n - len st e ss by omega)
        obtain ⟨b, hb⟩ := Int.eq_ofNat_of_zero_le (show 0 ≤ free st e ss - 1 by omega)
        rw [ha, show free st e ss = (b : Int) + 1 by omega, pf_some] at k
        refine ⟨_, rfl, _, rfl, _, _, rfl, rfl, _, _, rfl, rfl, _, rfl, _, _, rfl, rfl, a, b, ?_, by omega, by omega, k⟩
        rw [ha]
        show [V.int ((a : Int) + free st e ss - 1), V.int (free st e ss - 1)] = _
        rw [hb, show (a : Int) + free st e ss - 1 = (a : Int) + b by omega]
/-! ### the law's defs -/
def sp_int : Sp := fun vs H Q _ => ∃ i, vs = [.int i] ∧ Q (.bl true) H
theorem ok_law_is_integer (T : Tx K mg) : FnOk P w K mg base CX0 1 T.f_law_is_integer T.d_law_is_integer ["found"] sp_int := by
  refine T.F_law_is_integer.ok sc_law_is_integer (fun vs H Q E h => ?_) (fun cdv A outer s H vs Q E hr h => ?_)
  · obtain ⟨i, rfl, _⟩ := h
    rfl
  · obtain ⟨i, rfl, k⟩ := h
    refine ⟨_,
    (pss_one
      (ps_ret (pe_and (pe_callB call_isi (by rfl) T.m_isinstance (by decide +kernel) (pa_cons (pv 0) (pa_cons (pe_bltn (v := .ty "int") (by rfl) T.m_int (by decide +kernel) rfl) pa_nil))) (pe_one (pe_not (pe_callB call_isi (by rfl) T.m_isinstance (by decide +kernel) (pa_cons (pv 0) (pa_cons (pe_bltn (v := .ty "bool") (by rfl) T.m_bool (by decide +kernel) rfl) pa_nil)))))))), ?_⟩
    refine ⟨_, rfl, _, _, _, _, true, rfl, .ty "int", .base (.int i), kit_ty (by decide +kernel), _, rfl, iteT ?_⟩
    exact ⟨_, rfl, _, _, _, _, false, rfl, .ty "bool", .base (.int i), kit_ty (by decide +kernel), _, rfl, k⟩
def sp_spring : Sp := fun vs H Q _ => ∃ c, vs = [.int c] ∧ ∀ p z, H p = none → 0 ≤ z → Q (.ref p) (upd H p (.lst [.int z]))
theorem ok_law_spring (T : Tx K mg) : FnOk P w K mg base CX0 1 T.f_law_spring T.d_law_spring ["cell"] sp_spring := by
  refine T.F_law_spring.ok sc_law_spring (fun vs H Q E h => ?_) (fun cdv A outer s H vs Q E hr h => ?_)
  · obtain ⟨c, rfl, _⟩ := h
    rfl
  · obtain ⟨c, rfl, k⟩ := h
    refine ⟨_,
    (pss_cons
      (ps_if (pt_cmpR op_ge (pv 0) (pe_op op_pow pe_int pe_int) (nomark _))
        (pss_one
          (ps_ret (pe_lst (pa_cons (pe_op op_sub (pv 0) (pe_op op_pow pe_int pe_int)) pa_nil))))
        pss_nil)
    (pss_cons
      (ps_set (i := 1) sc_law_spring.nd rfl (.inl rfl) (pe_op op_mod (pe_callTy call_int1 (by rfl) T.m_int (by decide +kernel) (pa_cons (pv 0) pa_nil)) pe_int))
    (pss_cons
      (ps_set (i := 2) sc_law_spring.nd rfl (.inl rfl) pe_int)
    (pss_cons
      (ps_for PassesOwn.never rfl (pi_range1 (by rfl) T.m_range (pa_cons pe_int pa_nil)) (pg_name (i := 3) sc_law_spring.nd rfl (.inl rfl))
        (pss_cons
          (ps_set (i := 1) sc_law_spring.nd rfl (.inl rfl) (pe_op op_mod (pe_callTy call_int1 (by rfl) T.m_int (by decide +kernel) (pa_cons (pe_op op_add (pe_op op_add (pe_op op_add (pe_op op_mul (pv 1) (pv 1)) (pe_op op_mul (pe_op op_add pe_int (pe_op op_mul pe_int (pv 3))) (pv 1))) (pe_op op_mul pe_int (pv 3))) pe_int) pa_nil)) pe_int))
        (pss_one
          (ps_set (i := 2) sc_law_spring.nd rfl (.inl rfl) (pe_op op_add (pe_op op_mul (pv 2) (pe_op op_pow pe_int pe_int)) (pe_op op_fdiv (pv 1) pe_int))))))
    (pss_one
      (ps_ret (pe_lst (pa_cons (pv 2) pa_nil)))))))), ?_⟩
    refine ⟨_, rfl, _, _, rfl, rfl, ⟨by decide, by decide, by decide⟩, _, _, rfl, rfl, _, rfl, ite2 (fun c1 => ?_) (fun _ => ?_)⟩
    · have h1 : (10 : Int) ^ (18 : Int).toNat ≤ c := of_decide_eq_true c1
      refine ⟨_, rfl, _, _, rfl, rfl, ⟨by decide, by decide, by decide⟩, _, _, rfl, rfl, (by show 1 ≤ sizeLine; decide), fun p hp => k p _ hp ?_⟩
      omega
    · refine ⟨_, rfl, .inl ⟨_, rfl, _, _, rfl, rfl, (by show (0 : Int) < 999999999999999989; decide), ?_⟩⟩
      have l0 : 0 ≤ c % 999999999999999989 := Int.emod_nonneg _ (by decide)
      have l1 : c % 999999999999999989 < 999999999999999989 := Int.emod_lt_of_pos _ (by decide)
      refine ⟨10, rfl, by decide, by decide, for_range (n := 10) (fun _ σ H' => ∃ l m x, 0 ≤ l ∧ l < 1000000000000000000 ∧ 0 ≤ m ∧ H' = H ∧ σ = [some (.int c), some (.int l), some (.int m), x]) ?_ ?_ ?_⟩
      · exact ⟨_, 0, none, l0, by omega, by omega, rfl, rfl⟩
      · rintro i σ H' hi ⟨l, m, x, h1, h2, h3, rfl, rfl⟩
        have bl : -(2 ^ 64) < l ∧ l < 2 ^ 64 := by constructor <;> omega
        refine ⟨_, rfl, _, rfl, _, _, rfl, rfl, .inl bl, _, rfl, _, _, rfl, rfl, .inl ⟨by decide, by decide⟩, _, _, rfl, rfl, _, rfl, _, _, rfl, rfl, .inr bl, _, _, rfl, rfl, _, rfl, _, _, rfl, rfl, .inl ⟨by decide, by decide⟩, _, _, rfl, rfl, _, _, rfl, rfl, .inl ⟨_, rfl, _, _, rfl, rfl, (by show (0 : Int) < 999999999999999877; decide), ?_⟩⟩
        refine ⟨_, rfl, _, _, rfl, rfl, ⟨by decide, by decide, by decide⟩, _, _, rfl, rfl, .inr ⟨by decide, by decide⟩, _, rfl, _, _, rfl, rfl, ⟨by decide, by decide⟩, _, _, rfl, rfl, ?_⟩
        refine ⟨_, _, _, Int.emod_nonneg _ (by decide), Int.lt_trans (Int.emod_lt_of_pos _ (by decide)) (by decide), ?_, rfl, rfl⟩
        have a1 : 0 ≤ m * (10 : Int) ^ (17 : Int).toNat := Int.mul_nonneg h3 (by decide)
        exact Int.add_nonneg a1 (Int.ediv_nonneg (Int.emod_nonneg _ (by decide)) (by decide))
      · rintro σ H' ⟨l, m, x, h1, h2, h3, rfl, rfl⟩
        exact ⟨_, rfl, (by show 1 ≤ sizeLine; decide), fun p hp => k p _ hp h3⟩
def sp_draw : Sp := fun vs H Q _ => ∃ p m z, vs = [.ref p, .int m] ∧ H p = some (.lst [.int z]) ∧ 0 ≤ z ∧ 0 < m ∧ m.natAbs.log2 < 9000 ∧ ∀ d y, 0 ≤ d → d < m → 0 ≤ y → Q (.int d) (upd H p (.lst [.int y]))
theorem ok_law_draw (T : Tx K mg) : FnOk P w K mg base CX0 1 T.f_law_draw T.d_law_draw ["spring", "many"] sp_draw := by
  refine T.F_law_draw.ok sc_law_draw (fun vs H Q E h => ?_) (fun cdv A outer s H vs Q E hr h => ?_)
  · obtain ⟨p, m, z, rfl, _⟩ := h
    rfl
  · obtain ⟨p, m, z, rfl, hp, hz, hm, hl, k⟩ := h
    refine ⟨_,
    (pss_cons
      (ps_set (i := 2) sc_law_draw.nd rfl (.inl rfl) (pe_op op_mod (pe_callTy call_int1 (by rfl) T.m_int (by decide +kernel) (pa_cons (pe_ix ix_list (pv 0) pe_int (fun _ _ => rfl)) pa_nil)) (pv 1)))
    (pss_cons
      (ps_asg (pe_op op_fdivW (pe_ix ix_list (pv 0) pe_int (fun _ _ => rfl)) (pv 1)) (pg_sub (pv 0) pe_int set_list))
    (pss_one
      (ps_ret (pv 2))))), ?_⟩
    refine ⟨_, rfl, p, _, _, _, rfl, rfl, .of hp, atI_nat (j := 0) rfl, .inl ⟨_, rfl, _, rfl, _, _, rfl, rfl, hm, ?_⟩⟩
    refine ⟨_, rfl, p, _, _, _, rfl, rfl, .of hp, atI_nat (j := 0) rfl, _, rfl, _, _, rfl, rfl, ⟨hm, hl⟩, _, rfl, p, _, _, 0, rfl, rfl, hp, rfl, ?_⟩
    exact ⟨_, rfl, k _ _ (Int.emod_nonneg _ (by omega)) (Int.emod_lt_of_pos _ hm) (Int.ediv_nonneg hz (by omega))⟩
/-! ### a call by names alone -/
theorem pe_callN0 {X : Cx} {CX : CXT} {k : Nat} {f : Addr} {fd : FuncData} {ps ks : List Str} {sp : Sp} {E : XK} {x : Str} {p pos : Pos} {kws : List Keyword} {tk : TA} {g : List Value → List Value → List Value} {gV : List V → List V → List V}
    (F : FnOk X.prog X.w X.K X.mg X.base CX k f fd ps sp) (hr : Room k X.A) (hg : Gl X x) (hm : X.mg x = some (.ref f)) (kp : PySem.W.keepIn X.K (.ref f) = true) (hb : KBn X.K fd ps 0 ks g gV) (hx : Passes CX X E) (hkw : PK X kws tk)
    (h1 : (backToKw pos (keywordEach kws X.env)).all (·.1.isSome) = true := by rfl) (h2 : (backToKw pos (keywordEach kws X.env)).filterMap (·.1) = ks := by rfl) (h3 : (x == ("__debug__" : Str)) = false := by decide)
    (h4 : ((backTo pos (starEach [] X.env)).any (·.1) || (backToKw pos (keywordEach kws X.env)).any (·.1.isNone)) = false := by rfl) :
    PE X (.Call (.Name x p) [] kws pos) (tCallN 0 ks.length sp gV E tNil tk) := by
  refine ⟨fun pins s σ H Q I h => wpAny_Call_Name_kw (ld_glob I hg hm ?_ h3)⟩
  refine PySem.W.callWith_KW0 (h₀ := X.base) I.ok.mod.kin kp h1 ?_ h4
  refine thn (hkw.run pos pins s σ H _ I h) fun ws s2 ⟨zs, H2, I2, rz, l1, l2, q2⟩ => ⟨I2.kIn, ?_⟩
  rw [h2]
  exact run_fnN (us := []) (vs := []) F hr hb hx I2 .nil rz rfl l2 q2
theorem kb_plans_with (T : Tx K mg) : KBn K T.d_plans_with ["pattern", "n"] 0 ["pattern", "n"] (fun _ ws => ws) (fun _ zs => zs) := by
  obtain ⟨oc, od, kV, doc, pm, an, cdv, ct, osl, e, _, _⟩ := T.F_plans_with.ex
  refine ⟨fun s us ws _ h1 h2 => ?_, fun _ r => r⟩
  rw [e]
  match us, ws, h1, h2 with
  | [], [_, _], _, _ => exact BindsTo.of_eq rfl
/-! ### lists of ints, by their addresses -/
inductive Grp (bad : List Addr) (H : Hp) : List Addr → List (List Int) → Prop
  | nil : Grp bad H [] []
  | cons {a : Addr} {g : List Int} {as : List Addr} {gs : List (List Int)} : H a = some (.lst (g.map V.int)) → a ∉ bad → Grp bad H as gs → Grp bad H (a :: as) (g :: gs)
theorem Grp.keep {bad bad' : List Addr} {H H' : Hp} (k : ∀ b o, H b = some o → b ∉ bad → H' b = some o ∧ b ∉ bad') : ∀ {as : List Addr} {gs : List (List Int)}, Grp bad H as gs → Grp bad' H' as gs
  | _, _, .nil => .nil
  | _, _, .cons h n r => .cons (k _ _ h n).1 (k _ _ h n).2 (r.keep k)
theorem Grp.snoc {bad : List Addr} {H : Hp} {a : Addr} {g : List Int} (h : H a = some (.lst (g.map V.int))) (n : a ∉ bad) : ∀ {as : List Addr} {gs : List (List Int)}, Grp bad H as gs → Grp bad H (as ++ [a]) (gs ++ [g])
  | _, _, .nil => .cons h n .nil
  | _, _, .cons h1 n1 r => .cons h1 n1 (r.snoc h n)
theorem Grp.len {bad : List Addr} {H : Hp} : ∀ {as : List Addr} {gs : List (List Int)}, Grp bad H as gs → as.length = gs.length
  | _, _, .nil => rfl
  | _, _, .cons _ _ r => congrArg Nat.succ r.len
theorem Grp.at {bad : List Addr} {H : Hp} {a : Addr} : ∀ {as : List Addr} {gs : List (List Int)} {i : Nat}, Grp bad H as gs → as[i]? = some a → ∃ g, gs[i]? = some g ∧ H a = some (.lst (g.map V.int))
  | _, _, _, .nil, e => by simp at e
  | _, _, 0, .cons h n r, e => by
    have := Option.some.inj e
    subst this
    exact ⟨_, rfl, h⟩
  | _, _, i + 1, .cons h n r, e => r.at (i := i) e
theorem dp_ints {K : PySem.W.Frag} {H : Hp} : ∀ {ns : List Int}, DpAll K H (ns.map V.int) (ns.map PyData.int)
  | [] => .nil
  | _ :: _ => .cons (.int _) dp_ints
def gdata (gs : List (List Int)) : List PyData := gs.map fun g => .list (g.map PyData.int)
theorem Grp.dp {K : PySem.W.Frag} {bad : List Addr} {H : Hp} : ∀ {as : List Addr} {gs : List (List Int)}, Grp bad H as gs → DpAll K H (as.map V.ref) (gdata gs)
  | _, _, .nil => .nil
  | _, _, .cons h _ r => .cons (.lst (.of h) dp_ints) r.dp
theorem lay_ints : ∀ (ns : List Int), PyData.canLayAll0 (ns.map PyData.int) = true
  | [] => rfl
  | _ :: r => by
    show (true && PyData.canLayAll0 (r.map PyData.int)) = true
    rw [lay_ints r]; rfl
theorem lay_gdata : ∀ (gs : List (List Int)), PyData.canLayAll0 (gdata gs) = true
  | [] => rfl
  | g :: r => by
    show (PyData.canLayAll0 (g.map PyData.int) && PyData.canLayAll0 (gdata r)) = true
    rw [lay_ints, lay_gdata r]; rfl
theorem depth_ints : ∀ (ns : List Int), PyData.depthAll (ns.map PyData.int) ≤ 1
  | [] => by simp [PyData.depthAll]
  | a :: r => by
    have := depth_ints r
    simp only [List.map_cons, PyData.depthAll, PyData.depth]
    omega
theorem depth_gdata : ∀ (gs : List (List Int)), PyData.depthAll (gdata gs) ≤ 2
  | [] => by simp [gdata, PyData.depthAll]
  | g :: r => by
    have h1 := depth_gdata r
    have h2 := depth_ints g
    show PyData.depthAll (PyData.list (g.map PyData.int) :: gdata r) ≤ 2
    simp only [PyData.depthAll, PyData.depth]
    omega
def sdata (st e : Int) (gs : List (List Int)) (ss : List Int) : PyData := .tuple [.int st, .list (gdata gs), .list (ss.map PyData.int), .int e]
theorem sdata_ok (st e : Int) (gs : List (List Int)) (ss : List Int) : SeqAt.shaped (sdata st e gs ss) = true := by
  unfold SeqAt.shaped
  rw [Bool.and_eq_true]
  constructor
  · show (true && (PyData.canLayAll0 (gdata gs) && (PyData.canLayAll0 (ss.map PyData.int) && (true && true)))) = true
    rw [lay_gdata, lay_ints]; rfl
  · have h1 := depth_gdata gs
    have h2 := depth_ints ss
    refine decide_eq_true ?_
    simp only [sdata, PyData.depth, PyData.depthAll]
    omega
theorem cut3 (gs : List Int) : cutV (gs.map V.int) none (some 3) = (gs.take 3).map V.int := by
  unfold cutV
  rw [HT.sIx_none, show HT.sIx (gs.map V.int).length (gs.map V.int).length (some 3) = min 3 (gs.map V.int).length from HT.sIx_nat _ _ 3, List.drop_zero, Nat.sub_zero, List.map_take, List.length_map]
  by_cases h : 3 ≤ gs.length
  · rw [show min 3 gs.length = 3 by omega]
  · rw [show min 3 gs.length = gs.length by omega, List.take_of_length_le (by rw [List.length_map]; exact Nat.le_refl _), List.take_of_length_le (by rw [List.length_map]; omega)]
theorem cut1 (ss : List Int) : cutV (ss.map V.int) (some 1) none = (ss.drop 1).map V.int := by
  unfold cutV
  rw [show HT.sIx (ss.map V.int).length 0 (some 1) = min 1 (ss.map V.int).length from HT.sIx_nat _ _ 1, HT.sIx_none, List.map_drop]
  cases ss with
  | nil => rfl
  | cons a r =>
    rw [List.length_map, List.length_cons, show min 1 (r.length + 1) = 1 by omega]
    exact List.take_of_length_le (by rw [List.length_drop, List.length_map, List.length_cons]; exact Nat.le_refl _)
theorem list_ok (ns : List Int) : SeqAt.shaped (.list (ns.map PyData.int)) = true := by
  unfold SeqAt.shaped
  rw [Bool.and_eq_true]
  have h := depth_ints ns
  exact ⟨lay_ints ns, decide_eq_true (by simp only [PyData.depth]; omega)⟩
mutual
theorem dp_same {K : PySem.W.Frag} {H H' : Hp} (s : Same H H') : ∀ {v : V} {d : PyData}, Dp K H v d → Dp K H' v d
  | _, _, .non => .non
  | _, _, .bl b => .bl b
  | _, _, .int i => .int i
  | _, _, .str x => .str x
  | _, _, .lst h r => .lst (s.seq h) (dp_sameAll s r)
  | _, _, .tup h r => .tup (Same.tup s h) (dp_sameAll s r)
theorem dp_sameAll {K : PySem.W.Frag} {H H' : Hp} (s : Same H H') : ∀ {vs : List V} {ds : List PyData}, DpAll K H vs ds → DpAll K H' vs ds
  | _, _, .nil => .nil
  | _, _, .cons h r => .cons (dp_same s h) (dp_sameAll s r)
end
/-- the whole of a pattern, its lists apart from p -/
def Full (K : PySem.W.Frag) (H : Hp) (p t : Addr) (st e : Int) (gs : List (List Int)) (ss : List Int) : Prop :=
  ∃ g q as, H t = some (.tup [.int st, .ref g, .ref q, .int e]) ∧ H g = some (.lst (as.map V.ref)) ∧ H q = some (.lst (ss.map V.int)) ∧ g ≠ p ∧ q ≠ p ∧ t ≠ p ∧ Grp [p] H as gs ∧ gs.length ≤ 12
theorem Full.keep {H H' : Hp} {p t : Addr} {st e : Int} {gs : List (List Int)} {ss : List Int} (k : Kp H H' p) (h : Full K H p t st e gs ss) : Full K H' p t st e gs ss := by
  obtain ⟨g, q, as, h1, h2, h3, n1, n2, n3, h4, h5⟩ := h
  exact ⟨g, q, as, k _ _ h1 n3, k _ _ h2 n1, k _ _ h3 n2, n1, n2, n3, h4.keep fun b o e n => ⟨k _ _ e (fun z => n (by rw [z]; exact List.mem_singleton_self _)), n⟩, h5⟩
theorem Full.pat {H : Hp} {p t : Addr} {st e : Int} {gs : List (List Int)} {ss : List Int} (h : Full K H p t st e gs ss) : PatG K H t st e ss := by
  obtain ⟨g, q, as, h1, h2, h3, _⟩ := h
  exact ⟨g, q, .of h1, .of h3⟩
theorem Full.dp {H : Hp} {p t : Addr} {st e : Int} {gs : List (List Int)} {ss : List Int} (h : Full K H p t st e gs ss) : Dp K H (.ref t) (sdata st e gs ss) := by
  obtain ⟨g, q, as, h1, h2, h3, _, _, _, h4, _⟩ := h
  exact .tup (.of h1) (.cons (.int _) (.cons (.lst (.of h2) h4.dp) (.cons (.lst (.of h3) dp_ints) (.cons (.int _) .nil))))
def sp_shape (K : PySem.W.Frag) : Sp := fun vs H Q _ => ∃ p z, vs = [.ref p] ∧ H p = some (.lst [.int z]) ∧ 0 ≤ z ∧
  ∀ t st e gs ss y H', H t = none → Kp H H' p → H' p = some (.lst [.int y]) → 0 ≤ y → Full K H' p t st e gs ss → Shp st e ss → Q (.ref t) H'
theorem ok_law_shape (T : Tx K mg) : FnOk P w K mg base CX0 2 T.f_law_shape T.d_law_shape ["spring"] (sp_shape K) := by
  refine T.F_law_shape.ok sc_law_shape (fun vs H Q E h => ?_) (fun cdv A outer s H vs Q E hr h => ?_)
  · obtain ⟨p, z, rfl, _⟩ := h
    rfl
  · obtain ⟨p, z, rfl, hp, hz, k⟩ := h
    refine ⟨_,
    (pss_cons
      (ps_set (i := 1) sc_law_shape.nd rfl (.inl rfl) (pe_lst pa_nil))
    (pss_cons
      (ps_set (i := 2) sc_law_shape.nd rfl (.inl rfl) (pe_lst pa_nil))
    (pss_cons
      (ps_for PassesOwn.never rfl (pi_range1 (by rfl) T.m_range (pa_cons (pe_op op_add pe_int (pe_call (ok_law_draw T) hr (by rfl) T.g_law_draw T.F_law_draw.kp T.b_law_draw .nil pass0 (pa_cons (pv 0) (pa_cons pe_int pa_nil)))) pa_nil)) (pg_name (i := 3) sc_law_shape.nd rfl (.inl rfl))
        (pss_cons
          (ps_setLc (i := 4) (own := [("entry", 5)]) (g := gName 5) rfl sc_law_shape.nd rfl rfl (sw_true rfl rfl rfl (by decide +kernel)) (pi_range1 (by rfl) T.m_range (pa_cons (pe_op op_add pe_int (pe_call (ok_law_draw T) hr (by rfl) T.g_law_draw T.F_law_draw.kp T.b_law_draw .nil pass0 (pa_cons (pv 0) (pa_cons pe_int pa_nil)))) pa_nil)) (blkOk_by (N := ["spring", "groups", "steps", "k", "group", "entry"]) (sc := defScope s_law_shape) (own := [("entry", 5)]) (by decide +kernel)) (fun _ _ _ _ _ => (pg_name (i := 5) sc_law_shape.nd rfl (.inl rfl))) (fun _ _ _ _ _ => pts_nil) (fun _ _ _ _ _ => (pe_call (ok_law_draw T) hr (by rfl) T.g_law_draw T.F_law_draw.kp T.b_law_draw .nil pass0 (pa_cons (pv 0) (pa_cons pe_int pa_nil)))))
        (C8.pss_cut
          (ps_if (pt_cmpR op_eq (pe_call (ok_law_draw T) hr (by rfl) T.g_law_draw T.F_law_draw.kp T.b_law_draw .nil pass0 (pa_cons (pv 0) (pa_cons pe_int pa_nil))) pe_int (nomark _))
            (pss_one
              (ps_expr (pe_bm PySem.F.plainAttrs_list PySem.F.slot_list_append PySem.F.type_list_append mt_append (pv 4) (pa_cons (pe_op op_add (pe_op op_pow pe_int pe_int) (pe_call (ok_law_draw T) hr (by rfl) T.g_law_draw T.F_law_draw.kp T.b_law_draw .nil pass0 (pa_cons (pv 0) (pa_cons pe_int pa_nil)))) pa_nil))))
            pss_nil)
        (pss_cons
          (ps_expr (pe_bm PySem.F.plainAttrs_list PySem.F.slot_list_append PySem.F.type_list_append mt_append (pv 1) (pa_cons (pe_slice sl_list (pv 4) po_none (po_some pe_int)) pa_nil)))
        (pss_one
          (ps_expr (pe_bm PySem.F.plainAttrs_list PySem.F.slot_list_append PySem.F.type_list_append mt_append (pv 2) (pa_cons (pe_op op_add pe_int (pe_call (ok_law_draw T) hr (by rfl) T.g_law_draw T.F_law_draw.kp T.b_law_draw .nil pass0 (pa_cons (pv 0) (pa_cons pe_int pa_nil)))) pa_nil))))))))
    (pss_one
      (ps_ret (pe_tup (pa_cons (pe_call (ok_law_draw T) hr (by rfl) T.g_law_draw T.F_law_draw.kp T.b_law_draw .nil pass0 (pa_cons (pv 0) (pa_cons pe_int pa_nil))) (pa_cons (pv 1) (pa_cons (pe_slice sl_list (pv 2) (po_some pe_int) po_none) (pa_cons (pe_call (ok_law_draw T) hr (by rfl) T.g_law_draw T.F_law_draw.kp T.b_law_draw .nil pass0 (pa_cons (pv 0) (pa_cons pe_int pa_nil))) pa_nil)))))))))), ?_⟩
    refine ⟨Nat.zero_le _, fun D hD => ⟨Nat.zero_le _, fun S hS0 => ?_⟩⟩
    have pD : p ≠ D := ne_of_none hp hD
    have DS : D ≠ S := ne_of_none upd_same hS0
    have hSH : H S = none := by rw [upd_ne DS.symm] at hS0; exact hS0
    have pS : p ≠ S := ne_of_none hp hSH
    refine ⟨_, rfl, p, 12, z, rfl, ?_, hz, by decide, by decide +kernel, fun n y1 n0 n1 y10 => ⟨_, _, rfl, rfl, _, rfl, ?_, ?_, for_range (n := _) (fun i σ H' => ∃ (y : Int) (as : List Addr) (gs : List (List Int)) (ss : List Int) (x3 x4 x5 : Option V), σ = [some (.ref p), some (.ref D), some (.ref S), x3, x4, x5] ∧
      0 ≤ y ∧ H' p = some (.lst [.int y]) ∧ H' D = some (.lst (as.map V.ref)) ∧ H' S = some (.lst (ss.map V.int)) ∧ Grp [p, D, S] H' as gs ∧ gs.length = i ∧ ss.length = i ∧ (∀ s ∈ ss, s = 1 ∨ s = 2) ∧ Kp H H' p) ?_ ?_ ?_⟩⟩
    · rw [upd_ne pS, upd_ne pD]; exact hp
    · omega
    · omega
    · refine ⟨y1, [], [], [], none, none, none, rfl, y10, upd_same, ?_, ?_, .nil, rfl, rfl, (fun _ h => absurd h List.not_mem_nil), fun b o e nb => ?_⟩
      · rw [upd_ne pD.symm, upd_ne DS, upd_same]; rfl
      · rw [upd_ne pS.symm, upd_same]; rfl
      · rw [upd_ne nb, upd_ne (ne_of_none e hSH), upd_ne (ne_of_none e hD)]; exact e
    · rintro i σ H1 hi ⟨y, as, gs, ss, x3, x4, x5, rfl, y0, ep, eD, eS, hG, gl, sl, h2, kp⟩
      -- group
      refine ⟨_, rfl, p, 3, y, rfl, ep, y0, by decide, by decide +kernel, fun m y2 m0 m1 y20 => ⟨_, _, rfl, rfl, _, rfl, ?_, ?_, fun G hGn => ?_⟩⟩
      · omega
      · omega
      have pG : p ≠ G := ne_of_none upd_same hGn
      have hGn1 : H1 G = none := by rw [upd_ne pG.symm] at hGn; exact hGn
      refine lc_range (lo := 0) (n := (1 + m).toNat) (fun j H' => ∃ (y : Int) (g : List Int), g.length = j ∧ 0 ≤ y ∧ H' p = some (.lst [.int y]) ∧ H' G = some (.lst (g.map V.int)) ∧ Kp H1 H' p) ?_ ?_ ?_
      · refine ⟨y2, [], rfl, y20, ?_, upd_same, fun b o e nb => ?_⟩
        · rw [upd_ne pG, upd_same]
        · rw [upd_ne (ne_of_none e hGn1), upd_ne nb]; exact e
      · rintro j H2 hj ⟨y, g, hl, y0, ep, eG, k2⟩
        refine ⟨rfl, _, rfl, p, 12, y, rfl, ep, y0, by decide, by decide +kernel, fun d y3 d0 d1 y30 => ⟨g.map V.int, ?_, ?_, y3, g ++ [d], ?_, y30, ?_, ?_, ?_⟩⟩
        · rw [upd_ne pG.symm]; exact eG
        · rw [List.length_map, hl]; exact small1000 (by omega)
        · rw [List.length_append, hl]; rfl
        · rw [upd_ne pG, upd_same]
        · rw [upd_same, List.map_append]; rfl
        · intro b o e nb
          rw [upd_ne (ne_of_none e hGn1), upd_ne nb]
          exact k2 b o e nb
      · rintro H2 ⟨y, g, hl, y0, ep, eG, k2⟩
        -- the great entry
        refine ⟨fun σ H' => ∃ (y : Int) (g : List Int), σ = [some (.ref p), some (.ref D), some (.ref S), some (.int (0 + (i : Int))), some (.ref G), x5] ∧ g.length ≤ 4 ∧ 0 ≤ y ∧ H' p = some (.lst [.int y]) ∧ H' G = some (.lst (g.map V.int)) ∧ Kp H1 H' p,
          ⟨_, rfl, p, 8, y, rfl, ep, y0, by decide, by decide +kernel, fun d y3 d0 d1 y30 => ⟨rfl, _, rfl, ite2 (fun c => ?_) (fun c => ?_)⟩⟩, ?_⟩
        · refine ⟨_, rfl, .inl ⟨rfl, _, .of (by rw [upd_ne pG.symm]; exact eG)⟩, _, _, rfl, rfl, ⟨by decide, by decide, by decide⟩, _, rfl, p, 12, y3, rfl, upd_same, y30, by decide, by decide +kernel, fun d y4 d0 d1 y40 => ⟨_, _, rfl, rfl, G, g.map V.int, _, rfl, rfl, ?_, ?_, y4, g ++ [(10 : Int) ^ (59 : Int).toNat + d], rfl, ?_, y40, ?_, ?_, ?_⟩⟩
          · rw [upd_ne pG.symm, upd_ne pG.symm]; exact eG
          · rw [List.length_map]; exact small1000 (by omega)
          · rw [List.length_append]; show g.length + 1 ≤ 4; omega
          · rw [upd_ne pG, upd_same]
          · rw [upd_same, List.map_append]; rfl
          · intro b o e nb
            rw [upd_ne (ne_of_none e hGn1), upd_ne nb, upd_ne nb]
            exact k2 b o e nb
        · refine ⟨y3, g, rfl, by omega, y30, upd_same, ?_, ?_⟩
          · rw [upd_ne pG.symm]; exact eG
          · intro b o e nb
            rw [upd_ne nb]
            exact k2 b o e nb
        clear hl y0 ep eG k2 y g H2
        rintro σ H2 ⟨y, g, rfl, hl, y0, ep, eG, k2⟩
        have eD2 := k2 _ _ eD pD.symm
        have eS2 := k2 _ _ eS pS.symm
        -- groups.append(group[:3])
        refine ⟨_, rfl, .inl ⟨rfl, _, .of eD2⟩, _, rfl, _, rfl, G, _, rfl, .of eG, fun N hN => ⟨D, as.map V.ref, _, rfl, rfl, ?_, ?_, ?_⟩⟩
        · rw [upd_ne (ne_of_none eD2 hN)]; exact eD2
        · rw [List.length_map, hG.len, gl]; exact small1000 (by omega)
        have DN : D ≠ N := ne_of_none eD2 hN
        have SN : S ≠ N := ne_of_none eS2 hN
        have pN : p ≠ N := ne_of_none ep hN
        -- steps.append(1 + draw)
        refine ⟨_, rfl, .inl ⟨rfl, _, .of (by rw [upd_ne DS.symm, upd_ne SN]; exact eS2)⟩, _, rfl, p, 2, y, rfl, (by rw [upd_ne pD, upd_ne pN]; exact ep), y0, by decide, by decide +kernel, fun d y3 d0 d1 y30 => ⟨_, _, rfl, rfl, S, ss.map V.int, _, rfl, rfl, (by rw [upd_ne pS.symm, upd_ne DS.symm, upd_ne SN]; exact eS2), ?_, ?_⟩⟩
        · rw [List.length_map, sl]; exact small1000 (by omega)
        refine ⟨y3, as ++ [N], gs ++ [g.take 3], ss ++ [1 + d], _, _, _, rfl, y30, ?_, ?_, ?_, ?_, ?_, ?_, ?_, ?_⟩
        · rw [upd_ne pS, upd_same]
        · rw [upd_ne DS, upd_ne pD.symm, upd_same, List.map_append]; rfl
        · rw [upd_same, List.map_append]; rfl
        · have hb : ∀ b, b ∉ [p, D, S] → b ≠ p ∧ b ≠ D ∧ b ≠ S := fun b hb => by simpa using hb
          refine Grp.snoc ?_ (by simp only [List.mem_cons, List.not_mem_nil, or_false, not_or]; exact ⟨pN.symm, DN.symm, SN.symm⟩) (hG.keep fun b o e n => ⟨?_, n⟩)
          · rw [upd_ne SN.symm, upd_ne pN.symm, upd_ne DN.symm, upd_same, cut3]
          · obtain ⟨n1, n2, n3⟩ := hb b n
            have e2 := k2 b o e n1
            rw [upd_ne n3, upd_ne n1, upd_ne n2, upd_ne (ne_of_none e2 hN)]
            exact e2
        · rw [List.length_append, gl]; rfl
        · rw [List.length_append, sl]; rfl
        · intro s hs
          rcases List.mem_append.mp hs with h | h
          · exact h2 s h
          · have := List.mem_singleton.mp h
            omega
        · intro b o e nb
          have e1 := k2 b o (kp b o e nb) nb
          rw [upd_ne (ne_of_none e hSH), upd_ne nb, upd_ne (ne_of_none e hD), upd_ne (ne_of_none e1 hN)]
          exact e1
    · rintro σ H1 ⟨y, as, gs, ss, x3, x4, x5, rfl, y0, ep, eD, eS, hG, gl, sl, h2, kp⟩
      refine ⟨_, rfl, p, 2, y, rfl, ep, y0, by decide, by decide +kernel, fun d1 y3 d10 d11 y30 => ⟨_, rfl, _, rfl, _, rfl, S, _, rfl, .of (by rw [upd_ne pS.symm]; exact eS), fun N hN => ⟨_, rfl, p, 2, y3, rfl, ?_, y30, by decide, by decide +kernel, fun d2 y4 d20 d21 y40 => ⟨(by show 4 ≤ sizeLine; decide), fun t ht => ?_⟩⟩⟩⟩
      · rw [upd_ne (ne_of_none upd_same hN), upd_same]
      have pN : p ≠ N := ne_of_none upd_same hN
      have hN1 : H1 N = none := by rw [upd_ne pN.symm] at hN; exact hN
      have tp : t ≠ p := fun e => by subst e; rw [upd_same] at ht; cases ht
      have tN : t ≠ N := fun e => by subst e; rw [upd_ne tp, upd_same] at ht; cases ht
      have ht1 : H1 t = none := by rw [upd_ne tp, upd_ne tN, upd_ne tp] at ht; exact ht
      have back : ∀ b o, H1 b = some o → b ≠ p → (upd (upd (upd (upd H1 p (.lst [.int y3])) N (.lst (cutV (ss.map V.int) (some 1) none))) p (.lst [.int y4])) t (.tup [.int d1, .ref D, .ref N, .int d2])) b = some o := fun b o e nb => by
        rw [upd_ne (ne_of_none e ht1), upd_ne nb, upd_ne (ne_of_none e hN1), upd_ne nb]
        exact e
      refine k t d1 d2 gs (ss.drop 1) y4 _ ?_ (fun b o e nb => back b o (kp b o e nb) nb) ?_ y40 ⟨D, N, as, upd_same, back _ _ eD pD.symm, ?_, pD.symm, pN.symm, tp, hG.keep fun b o e n => ?_, by omega⟩ ⟨d10, by omega, d20, by omega, fun s hs => h2 s (List.mem_of_mem_drop hs), by rw [List.length_drop]; omega⟩
      · cases h : H t with
        | none => rfl
        | some o => rw [kp t o h tp] at ht1; cases ht1
      · rw [upd_ne tp.symm, upd_same]
      · rw [upd_ne tN.symm, upd_ne pN.symm, upd_same, cut1]
      · have hb : b ≠ p ∧ b ≠ D ∧ b ≠ S := by simpa using n
        exact ⟨back b o e hb.1, by simpa using hb.1⟩
def sp_due (K : PySem.W.Frag) : Sp := fun vs H Q _ => ∃ t st e ss n, vs = [.ref t, .int n] ∧ PatG K H t st e ss ∧ Shp st e ss ∧ n < 2 ^ 100 ∧ ∀ H', Same H H' → Q (.int (many st e ss n)) H'
theorem take_count {ss : List Int} {i : Nat} {v : Int} (h : ss[i]? = some v) : (ss.take (i + 1)).count 2 = (ss.take i).count 2 + (if v = 2 then 1 else 0) := by
  rw [List.take_add_one, h, List.count_append]
  show _ + [v].count 2 = _
  by_cases e : v = 2
  · rw [if_pos e, e]; rfl
  · rw [if_neg e, List.count_cons_of_ne (fun z => e z)]; rfl
theorem small_log {m : Int} (h : m.natAbs < 1024) : m.natAbs.log2 < 9000 := by
  have h1 : m.natAbs.log2 < 10 := PySem.Flt.log2_lt_of (by decide) h
  omega
theorem ok_law_due (T : Tx K mg) : FnOk P w K mg base CX0 1 T.f_law_due T.d_law_due ["shape", "days"] (sp_due K) := by
  refine T.F_law_due.ok sc_law_due (fun vs H Q E h => ?_) (fun cdv A outer s H vs Q E hr h => ?_)
  · obtain ⟨t, st, e, ss, n, rfl, _⟩ := h
    rfl
  · obtain ⟨t, st, e, ss, n, rfl, ⟨g, q, hT, hq⟩, hS, hn, k⟩ := h
    refine ⟨_,
    (pss_cons
      (ps_set (i := 2) sc_law_due.nd rfl (.inl rfl) (pe_op op_sub (pe_op op_sub (pe_op op_sub (pe_op op_sub (pv 1) pe_int) (pe_ix ix_tup (pv 0) pe_int (fun _ _ => rfl))) (pe_callB (cr_sum rfl) (by rfl) T.m_sum (by decide +kernel) (pa_cons (pe_ix ix_tup (pv 0) pe_int (fun _ _ => rfl)) pa_nil))) (pe_ix ix_tup (pv 0) pe_int (fun _ _ => rfl))))
    (pss_cons
      (ps_set (i := 3) sc_law_due.nd rfl (.inl rfl) (pe_op op_add (pe_op op_add (pe_ix ix_tup (pv 0) pe_int (fun _ _ => rfl)) (pe_ix ix_tup (pv 0) pe_int (fun _ _ => rfl))) (pe_callB call_len_seq (by rfl) T.m_len (by decide +kernel) (pa_cons (pe_lc (own := [("step", 6)]) (g := gName 6) rfl sc_law_due.nd (pi_list (pe_ix ix_tup (pv 0) pe_int (fun _ _ => rfl))) (blkOk_by (N := ["shape", "days", "slack", "freedom", "number", "k", "step"]) (sc := defScope s_law_due) (own := [("step", 6)]) (by decide +kernel)) (fun _ _ _ _ _ => (pg_name (i := 6) sc_law_due.nd rfl (.inl rfl))) (fun _ _ _ _ _ => (pts_one (pt_cmpR op_eq (pv 6) pe_int (nomark _)))) (fun _ _ _ _ _ => (pv 6))) pa_nil))))
    (pss_cons
      (ps_if (pt_cmpR op_lt (pv 2) pe_int (nomark _))
        (pss_one
          (ps_ret pe_int))
        pss_nil)
    (pss_cons
      (ps_if (pt_cmpR op_eq (pv 3) pe_int (nomark _))
        (pss_one
          (ps_ret (pe_callTy call_int1 (by rfl) T.m_int (by decide +kernel) (pa_cons (pe_cmpR op_eq (pv 2) pe_int (nomark _)) pa_nil))))
        pss_nil)
    (pss_cons
      (ps_set (i := 4) sc_law_due.nd rfl (.inl rfl) pe_int)
    (pss_cons
      (ps_for PassesOwn.never rfl (pi_range1 (by rfl) T.m_range (pa_cons (pe_op op_sub (pv 3) pe_int) pa_nil)) (pg_name (i := 5) sc_law_due.nd rfl (.inl rfl))
        (pss_one
          (ps_set (i := 4) sc_law_due.nd rfl (.inl rfl) (pe_op op_fdivW (pe_op op_mulW (pv 4) (pe_op op_add (pe_op op_add (pv 2) pe_int) (pv 5))) (pe_op op_add (pv 5) pe_int)))))
    (pss_one
      (ps_ret (pv 4))))))))), ?_⟩
    -- slack
    refine ⟨_, rfl, _, _, rfl, rfl, _, rfl, t, _, _, _, rfl, rfl, hT, atI_nat (j := 0) rfl, _, _, rfl, rfl, _, rfl, t, _, _, _, rfl, rfl, hT, atI_nat (j := 2) rfl, q, ss, rfl, hq, _, _, rfl, rfl, _, rfl, t, _, _, _, rfl, rfl, hT, atI_nat (j := 3) rfl, _, _, rfl, rfl, ?_⟩
    -- freedom
    refine ⟨_, rfl, t, _, _, _, rfl, rfl, hT, atI_nat (j := 0) rfl, _, rfl, t, _, _, _, rfl, rfl, hT, atI_nat (j := 3) rfl, _, _, rfl, rfl, _, rfl, t, _, _, _, rfl, rfl, hT, atI_nat (j := 2) rfl, q, rfl, ⟨_, hq⟩, fun D hD => ?_⟩
    refine lc_list (xs := ss.map V.int) (fun i H' => ∃ ps : List Int, ps.length = (ss.take i).count 2 ∧ ps.length ≤ i ∧ H' D = some (.lst (ps.map V.int)) ∧ Same H H') ?_ ?_ ?_ ?_
    · exact ⟨[], rfl, Nat.le_refl _, upd_same, same_upd hD⟩
    · rintro i H' hi ⟨ps, _, _, _, sm⟩
      exact sm.seq hq
    · rintro i x H' hi ⟨ps, pl, pi, eD, sm⟩
      rw [List.getElem?_map] at hi
      obtain ⟨v, hv, rfl⟩ := Option.map_eq_some_iff.mp hi
      have il := (List.getElem?_eq_some_iff.mp hv).1
      have few := hS.few
      have tc := take_count hv
      refine ⟨rfl, _, rfl, rfl, _, rfl, ite2 (fun c => ?_) (fun c => ?_)⟩
      · have e2 : v = 2 := V.int.inj (of_decide_eq_true c)
        rw [if_pos e2] at tc
        refine ⟨_, rfl, ps.map V.int, eD, ?_, ps ++ [v], ?_, ?_, ?_, ?_⟩
        · rw [List.length_map]; exact small1000 (by omega)
        · rw [List.length_append, tc, pl]; rfl
        · rw [List.length_append]; exact Nat.succ_le_succ pi
        · rw [upd_same, List.map_append]; rfl
        · intro b o e
          rw [upd_ne (ne_of_none e hD)]
          exact sm b o e
      · have e2 : v ≠ 2 := fun z => c (decide_eq_true (congrArg V.int z))
        rw [if_neg e2] at tc
        exact ⟨ps, by omega, by omega, eD, sm⟩
    · rintro H1 ⟨ps, pl, pi, eD, sm⟩
      rw [List.length_map, List.take_length] at pl
      refine ⟨D, _, rfl, .inl (.of eD), _, _, rfl, rfl, ?_⟩
      have hl := len_pos hS
      have hf := free_nn hS
      have hf2 := free_le hS
      have k := k H1 sm
      have e1 : n - 1 - st - ss.sum - e = n - len st e ss := by unfold len; omega
      have e2 : st + e + ((ps.map V.int).length : Int) = free st e ss := by rw [List.length_map, pl]; unfold free; omega
      show tSeq _ _ _ [some (V.ref t), some (V.int n), some (V.int (n - 1 - st - ss.sum - e)), some (V.int (st + e + ((ps.map V.int).length : Int))), none, none, none] H1
      rw [e1, e2]
      unfold many at k
      refine ⟨_, rfl, _, _, rfl, rfl, _, rfl, ite2 (fun c => ?_) (fun c => ?_)⟩
      · rw [pf_neg (of_decide_eq_true c)] at k
        exact k
      · have c0 : ¬ n - len st e ss < 0 := fun z => c (decide_eq_true z)
        refine ⟨_, rfl, rfl, _, rfl, ite2 (fun c => ?_) (fun c => ?_)⟩
        · have c1 : free st e ss = 0 := V.int.inj (of_decide_eq_true c)
          rw [c1, pf_none (by omega)] at k
          refine ⟨_, rfl, rfl, .inr ⟨_, rfl, ?_⟩⟩
          by_cases z : n - len st e ss = 0
          · rw [if_pos z] at k
            rw [z]
            exact k
          · rw [if_neg z] at k
            rw [decide_eq_false (fun y => z (V.int.inj y))]
            exact k
        · have c1 : free st e ss ≠ 0 := fun z => c (decide_eq_true (congrArg V.int z))
          obtain ⟨a, ha⟩ := Int.eq_ofNat_of_zero_le (show 0 ≤ n - len st e ss by omega)
          obtain ⟨b, hb⟩ := Int.eq_ofNat_of_zero_le (show 0 ≤ free st e ss - 1 by omega)
          rw [ha, show free st e ss = (b : Int) + 1 by omega, pf_some] at k
          rw [ha, show free st e ss = (b : Int) + 1 by omega]
          refine ⟨_, rfl, _, _, rfl, rfl, _, rfl, ?_, ?_, for_range (n := _) (fun i σ H' => H' = H1 ∧ ∃ x5 x6, σ = [some (V.ref t), some (V.int n), some (V.int (a : Int)), some (V.int ((b : Int) + 1)), some (V.int (gb a i : Nat)), x5, x6]) ?_ ?_ ?_⟩
          · show _ ≤ (b : Int) + 1 - 1
            omega
          · show (b : Int) + 1 - 1 < _
            omega
          · exact ⟨rfl, _, _, by rw [gb_r]; rfl⟩
          · rintro i σ H' hi ⟨rfl, x5, x6, rfl⟩
            have hi2 : i < ((b : Int) + 1 - 1).toNat := hi
            refine ⟨_, rfl, _, rfl, _, _, rfl, rfl, _, rfl, _, _, rfl, rfl, _, _, rfl, rfl, ?_, _, rfl, _, _, rfl, rfl, _, _, rfl, rfl, ?_, rfl, some (V.int (0 + (i : Int))), x6, ?_⟩
            · have g1 := gb_log (s := a) (j := i) (by omega) (by omega)
              have g2 : ((a : Int) + 1 + (0 + (i : Int))).natAbs.log2 < 120 := PySem.Flt.log2_lt_of (by decide) (by omega)
              show _ + _ < _
              omega
            · exact ⟨by show (0 : Int) < 0 + (i : Int) + 1; omega, small_log (by show (0 + (i : Int) + 1).natAbs < 1024; omega)⟩
            · have g3 := gb_next a i
              rw [← g3]
              show [_, _, _, _, some (V.int ((gb a i : Int) * ((a : Int) + 1 + (0 + (i : Int))) / (0 + (i : Int) + 1))), _, _] = _
              rw [Int.zero_add]
          · rintro σ H' ⟨rfl, x5, x6, rfl⟩
            refine ⟨_, rfl, ?_⟩
            rw [show ((b : Int) + 1 - 1).toNat = b by omega]
            exact k
def sp_days (K : PySem.W.Frag) : Sp := fun vs H Q _ => ∃ p t z st e ss, vs = [.ref p, .ref t] ∧ H p = some (.lst [.int z]) ∧ 0 ≤ z ∧ (∀ H2, Kp H H2 p → PatG K H2 t st e ss) ∧ Shp st e ss ∧
  ∀ n y H', n < 2 ^ 100 → 0 ≤ y → H' p = some (.lst [.int y]) → Kp H H' p → Q (.int n) H'
theorem sum_le : ∀ {ss : List Int}, (∀ s ∈ ss, s = 1 ∨ s = 2) → ss.sum ≤ 2 * ss.length
  | [], _ => Int.le_refl _
  | a :: r, h => by
    have h1 := h a List.mem_cons_self
    have h2 := sum_le (ss := r) fun s hs => h s (List.mem_cons_of_mem _ hs)
    rw [List.sum_cons, List.length_cons]
    omega
theorem len_le {st e : Int} {ss : List Int} (h : Shp st e ss) : len st e ss ≤ 27 := by
  have := h.s1; have := h.e1; have := sum_le h.two; have := h.few
  unfold len; omega
theorem Kp.upd {H H' : Hp} {p : Addr} {o : HO} (k : Kp H H' p) : Kp H (upd H' p o) p := fun b u e nb => by
  rw [upd_ne nb]
  exact k b u e nb
theorem ok_law_days (T : Tx K mg) : FnOk P w K mg base CX0 2 T.f_law_days T.d_law_days ["spring", "shape"] (sp_days K) := by
  refine T.F_law_days.ok sc_law_days (fun vs H Q E h => ?_) (fun cdv A outer s H vs Q E hr h => ?_)
  · obtain ⟨p, t, z, st, e, ss, rfl, _⟩ := h
    rfl
  · obtain ⟨p, t, z, st, e, ss, rfl, hp, hz, hP, hS, k⟩ := h
    refine ⟨_,
    (pss_cons
      (ps_set (i := 2) sc_law_days.nd rfl (.inl rfl) (pe_op op_add (pe_op op_add (pe_op op_add pe_int (pe_ix ix_tup (pv 1) pe_int (fun _ _ => rfl))) (pe_callB (cr_sum rfl) (by rfl) T.m_sum (by decide +kernel) (pa_cons (pe_ix ix_tup (pv 1) pe_int (fun _ _ => rfl)) pa_nil))) (pe_ix ix_tup (pv 1) pe_int (fun _ _ => rfl))))
    (pss_cons
      (ps_set (i := 3) sc_law_days.nd rfl (.inl rfl) (pe_call (ok_law_draw T) hr (by rfl) T.g_law_draw T.F_law_draw.kp T.b_law_draw .nil pass0 (pa_cons (pv 0) (pa_cons pe_int pa_nil))))
    (pss_cons
      (ps_if (pt_cmpR op_eq (pv 3) pe_int (nomark _))
        (pss_one
          (ps_ret (pv 2)))
        pss_nil)
    (pss_cons
      (ps_if (pt_cmpR op_eq (pv 3) pe_int (nomark _))
        (pss_one
          (ps_ret (pe_op op_sub (pv 2) pe_int)))
        pss_nil)
    (pss_cons
      (ps_if (pt_cmpR op_eq (pv 3) pe_int (nomark _))
        (pss_one
          (ps_ret (pe_op op_add (pv 2) (pe_call (ok_law_draw T) hr (by rfl) T.g_law_draw T.F_law_draw.kp T.b_law_draw .nil pass0 (pa_cons (pv 0) (pa_cons pe_int pa_nil))))))
        pss_nil)
    (pss_cons
      (ps_if (pt_cmpR op_eq (pv 3) pe_int (nomark _))
        (pss_one
          (ps_ret (pe_op op_sub (pe_un un_neg pe_int) (pe_call (ok_law_draw T) hr (by rfl) T.g_law_draw T.F_law_draw.kp T.b_law_draw .nil pass0 (pa_cons (pv 0) (pa_cons (pe_op op_pow pe_int pe_int) pa_nil))))))
        pss_nil)
    (pss_one
      (ps_ret (pe_op op_add (pv 2) (pe_call (ok_law_draw T) hr (by rfl) T.g_law_draw T.F_law_draw.kp T.b_law_draw .nil pass0 (pa_cons (pv 0) (pa_cons (pe_op op_pow pe_int pe_int) pa_nil)))))))))))), ?_⟩
    obtain ⟨g, q, hT, hq⟩ := hP H fun _ _ h _ => h
    have hL := len_pos hS
    have hL2 := len_le hS
    have kp : Kp H H p := fun _ _ h _ => h
    refine ⟨_, rfl, t, _, _, _, rfl, rfl, hT, atI_nat (j := 0) rfl, _, _, rfl, rfl, _, rfl, t, _, _, _, rfl, rfl, hT, atI_nat (j := 2) rfl, q, ss, rfl, hq, _, _, rfl, rfl, _, rfl, t, _, _, _, rfl, rfl, hT, atI_nat (j := 3) rfl, _, _, rfl, rfl, ?_⟩
    refine ⟨_, rfl, p, 6, z, rfl, hp, hz, by decide, by decide +kernel, fun w y1 w0 w1 y10 => ?_⟩
    refine ⟨_, rfl, rfl, _, rfl, ite2 (fun c => ?_) (fun _ => ?_)⟩
    · exact ⟨_, rfl, k _ y1 _ (by show len st e ss < _; omega) y10 upd_same kp.upd⟩
    refine ⟨_, rfl, rfl, _, rfl, ite2 (fun c => ?_) (fun _ => ?_)⟩
    · exact ⟨_, rfl, _, _, rfl, rfl, k _ y1 _ (by show len st e ss - 1 < _; omega) y10 upd_same kp.upd⟩
    refine ⟨_, rfl, rfl, _, rfl, ite2 (fun c => ?_) (fun _ => ?_)⟩
    · exact ⟨_, rfl, _, rfl, p, 40, y1, rfl, upd_same, y10, by decide, by decide +kernel, fun d y2 d0 d1 y20 => ⟨_, _, rfl, rfl, k _ y2 _ (by show len st e ss + d < _; omega) y20 upd_same kp.upd.upd⟩⟩
    refine ⟨_, rfl, rfl, _, rfl, ite2 (fun c => ?_) (fun _ => ?_)⟩
    · refine ⟨_, rfl, _, rfl, _, _, rfl, rfl, ⟨by decide, by decide, by decide⟩, p, _, y1, rfl, upd_same, y10, by decide, by decide +kernel, fun d y2 d0 d1 y20 => ⟨_, _, rfl, rfl, k _ y2 _ (by show -1 - d < _; omega) y20 upd_same kp.upd.upd⟩⟩
    · refine ⟨_, rfl, _, rfl, _, _, rfl, rfl, ⟨by decide, by decide, by decide⟩, p, _, y1, rfl, upd_same, y10, by decide, by decide +kernel, fun d y2 d0 d1 y20 => ⟨_, _, rfl, rfl, k _ y2 _ ?_ y20 upd_same kp.upd.upd⟩⟩
      have d2 : d < (10 : Int) ^ (28 : Int).toNat := d1
      rw [show (10 : Int) ^ (28 : Int).toNat = 10000000000000000000000000000 by decide] at d2
      show len st e ss + d < _
      omega
theorem ixN_nat {n j : Nat} (hj : j < n) : ixN n (j : Int) = some j := by
  unfold ixN
  rw [if_pos (by omega), if_pos (by omega), Int.toNat_natCast]
def spLaw (K : PySem.W.Frag) : Sp := fun vs H Q _ => ∃ (a : Addr) (ns : List Int), vs = [.ref a] ∧ SqL K H a (ns.map V.int) ∧ ns.length ≤ 63 ∧ ∀ H', Q (.bl true) H'
theorem shp_turn {st e a : Int} {r : List Int} (h : Shp st e (a :: r)) : Shp st e ((3 - a) :: r) := by
  obtain ⟨h1, h2, h3, h4, h5, h6⟩ := h
  refine ⟨h1, h2, h3, h4, fun s hs => ?_, h6⟩
  rcases List.mem_cons.mp hs with z | z
  · have := h5 a List.mem_cons_self
    omega
  · exact h5 s (List.mem_cons_of_mem _ z)
theorem ok_law (T : Tx K mg) : FnOk P w K mg base CX0 3 T.f_law T.d_law ["script"] (spLaw K) := by
  refine T.F_law.ok sc_law (fun vs H Q E h => ?_) (fun cdv A outer s H vs Q E hr h => ?_)
  · obtain ⟨a, ns, rfl, _⟩ := h
    rfl
  · obtain ⟨a, ns, rfl, hS, hl, k⟩ := h
    refine ⟨_,
    (pss_cons
      (ps_for PassesOwn.never rfl (pi_list (pe_op op_cat (pe_lst (pa_cons pe_int pa_nil)) (pe_slice sl_list (pv 0) po_none (po_some pe_int)))) (pg_name (i := 1) sc_law.nd rfl (.inl rfl))
        (pss_cons
          (ps_set (i := 2) sc_law.nd rfl (.inl rfl) (pe_call (ok_law_spring T) (hr.mono (by decide)) (by rfl) T.g_law_spring T.F_law_spring.kp T.b_law_spring .nil pass0 (pa_cons (pv 1) pa_nil)))
        (pss_cons
          (ps_set (i := 3) sc_law.nd rfl (.inl rfl) (pe_call (ok_law_shape T) hr (by rfl) T.g_law_shape T.F_law_shape.kp T.b_law_shape .nil pass0 (pa_cons (pv 2) pa_nil)))
        (pss_cons
          (ps_set (i := 4) sc_law.nd rfl (.inl rfl) (pe_call (ok_law_days T) hr (by rfl) T.g_law_days T.F_law_days.kp T.b_law_days .nil pass0 (pa_cons (pv 2) (pa_cons (pv 3) pa_nil))))
        (pss_cons
          (ps_set (i := 5) sc_law.nd rfl (.inl rfl) (pe_tup (pa_cons (pe_ix ix_tup (pv 3) pe_int (fun _ _ => rfl)) (pa_cons (pe_lc (own := [("group", 10)]) (g := gName 10) rfl sc_law.nd (pi_list (pe_ix ix_tup (pv 3) pe_int (fun _ _ => rfl))) (blkOk_by (N := ["script", "cell", "spring", "shape", "days", "handed", "bare", "due", "found", "steps", "group", "k"]) (sc := defScope s_law) (own := [("group", 10)]) (by decide +kernel)) (fun _ _ _ _ _ => (pg_name (i := 10) sc_law.nd rfl (.inl rfl))) (fun _ _ _ _ _ => pts_nil) (fun _ _ _ _ _ => (pe_callTy (T := "list") (r := rList K) call_list_of (by rfl) T.m_list (by decide +kernel) (pa_cons (pv 10) pa_nil)))) (pa_cons (pe_callTy call_list_of (by rfl) T.m_list (by decide +kernel) (pa_cons (pe_ix ix_tup (pv 3) pe_int (fun _ _ => rfl)) pa_nil)) (pa_cons (pe_ix ix_tup (pv 3) pe_int (fun _ _ => rfl)) pa_nil))))))
        (pss_cons
          (ps_set (i := 6) sc_law.nd rfl (.inl rfl) (pe_tup (pa_cons (pe_ix ix_tup (pv 3) pe_int (fun _ _ => rfl)) (pa_cons (pe_lc (own := [("k", 11)]) (g := gName 11) rfl sc_law.nd (pi_range1 (by rfl) T.m_range (pa_cons (pe_callB call_len_seq (by rfl) T.m_len (by decide +kernel) (pa_cons (pe_ix ix_tup (pv 3) pe_int (fun _ _ => rfl)) pa_nil)) pa_nil)) (blkOk_by (N := ["script", "cell", "spring", "shape", "days", "handed", "bare", "due", "found", "steps", "group", "k"]) (sc := defScope s_law) (own := [("k", 11)]) (by decide +kernel)) (fun _ _ _ _ _ => (pg_name (i := 11) sc_law.nd rfl (.inl rfl))) (fun _ _ _ _ _ => pts_nil) (fun _ _ _ _ _ => (pe_lst (pa_cons (pv 11) pa_nil)))) (pa_cons (pe_callTy call_list_of (by rfl) T.m_list (by decide +kernel) (pa_cons (pe_ix ix_tup (pv 3) pe_int (fun _ _ => rfl)) pa_nil)) (pa_cons (pe_ix ix_tup (pv 3) pe_int (fun _ _ => rfl)) pa_nil))))))
        (pss_cons
          (ps_set (i := 7) sc_law.nd rfl (.inl rfl) (pe_call (ok_law_due T) (hr.mono (by decide)) (by rfl) T.g_law_due T.F_law_due.kp T.b_law_due .nil pass0 (pa_cons (pv 3) (pa_cons (pv 4) pa_nil))))
        (pss_cons
          (ps_for PassesOwn.never rfl (pi_list (pe_lst (pa_cons (pe_call (ok_plans_with T) hr (by rfl) T.g_plans_with T.F_plans_with.kp T.b_plans_with .nil pass0 (pa_cons (pv 5) (pa_cons (pv 4) pa_nil))) (pa_cons (pe_callN0 (ok_plans_with T) hr (by rfl) T.g_plans_with T.F_plans_with.kp (kb_plans_with T) pass0 (pk_cons (pv 5) (pk_cons (pv 4) pk_nil))) (pa_cons (pe_call (ok_plans_with T) hr (by rfl) T.g_plans_with T.F_plans_with.kp T.b_plans_with .nil pass0 (pa_cons (pv 6) (pa_cons (pv 4) pa_nil))) pa_nil))))) (pg_name (i := 8) sc_law.nd rfl (.inl rfl))
            (pss_one
              (ps_if (PW.pt (pw_or (pt_not (pt_val (pe_call (ok_law_is_integer T) (hr.mono (by decide)) (by rfl) T.g_law_is_integer T.F_law_is_integer.kp T.b_law_is_integer .nil pass0 (pa_cons (pv 8) pa_nil)))) (pw_or1 (pt_cmpR op_ne (pv 8) (pv 7) (nomark _)))))
                (pss_one
                  (ps_ret pe_bl))
                pss_nil)))
        (pss_cons
          (ps_if (pt_cmpR (op_neD hr.units) (pv 5) (pv 3) (nomark _))
            (pss_one
              (ps_ret pe_bl))
            pss_nil)
        (pss_cons
          (ps_set (i := 9) sc_law.nd rfl (.inl rfl) (pe_ix ix_tup (pv 5) pe_int (fun _ _ => rfl)))
        (pss_one
          (ps_if (pt_cmpR (op_neD hr.units) (pv 9) (pe_lst pa_nil) (nomark _))
            (pss_cons
              (ps_asg (pe_op op_sub pe_int (pe_ix ix_list (pv 9) pe_int (fun _ _ => rfl))) (pg_sub (pv 9) pe_int set_list))
            (pss_one
              (ps_if (pt_cmpR op_ne (pe_call (ok_plans_with T) hr (by rfl) T.g_plans_with T.F_plans_with.kp T.b_plans_with .nil pass0 (pa_cons (pv 5) (pa_cons (pv 4) pa_nil))) (pe_call (ok_law_due T) (hr.mono (by decide)) (by rfl) T.g_law_due T.F_law_due.kp T.b_law_due .nil pass0 (pa_cons (pv 5) (pa_cons (pv 4) pa_nil))) (nomark _))
                (pss_one
                  (ps_ret pe_bl))
                pss_nil)))
            pss_nil))))))))))))
    (pss_one
      (ps_ret pe_bl))), ?_⟩
    refine ⟨(by show 1 ≤ sizeLine; decide), fun l hl0 => ⟨_, rfl, _, rfl, a, _, rfl, (same_upd hl0).seq hS, fun b hb => ⟨l, b, [V.int 0], _, rfl, rfl, ?_, upd_same, ?_, fun A hA => ⟨_, rfl, ⟨_, .of upd_same⟩,
      for_list (xs := [V.int 0] ++ cutV (ns.map V.int) none (some 12)) (fun _ σ H' => H' A = some (.lst ([V.int 0] ++ cutV (ns.map V.int) none (some 12))) ∧ ∃ x1 x2 x3 x4 x5 x6 x7 x8 x9 x10 x11, σ = [some (.ref a), x1, x2, x3, x4, x5, x6, x7, x8, x9, x10, x11]) ?_ ?_ ?_ ?_⟩⟩⟩⟩
    · rw [upd_ne (ne_of_none upd_same hb), upd_same]
    · have h := cutV_length (ns.map V.int) none (some 12)
      rw [List.length_map] at h
      exact Nat.le_of_lt (small1000 (n := 1 + _) (by omega))
    · exact ⟨upd_same, none, none, none, none, none, none, none, none, none, none, none, rfl⟩
    · rintro i σ H' _ ⟨eA, _⟩
      exact .of eA
    · rintro i x σ H1 hi ⟨eA, x1, x2, x3, x4, x5, x6, x7, x8, x9, x10, x11, rfl⟩
      obtain ⟨c, rfl⟩ : ∃ c, x = .int c := by
        rcases List.mem_append.mp (List.mem_of_getElem? hi) with h | h
        · exact ⟨0, List.mem_singleton.mp h⟩
        · obtain ⟨c, _, rfl⟩ := List.mem_map.mp (List.mem_of_mem_drop (List.mem_of_mem_take h))
          exact ⟨c, rfl⟩
      generalize [V.int 0] ++ cutV (ns.map V.int) none (some 12) = xs at *
      -- spring, shape, days
      refine ⟨_, rfl, c, rfl, fun p z hp hz => ⟨_, rfl, p, z, rfl, upd_same, hz, fun t st e gs ss y H3 ht kp ey y0 hF hS => ?_⟩⟩
      have Ap : A ≠ p := ne_of_none eA hp
      have eA3 : H3 A = some (.lst xs) := kp _ _ (by rw [upd_ne Ap]; exact eA) Ap
      clear kp
      refine ⟨_, rfl, _, rfl, p, t, y, st, e, ss, rfl, ey, y0, fun H2 k2 => (hF.keep k2).pat, hS, fun n y' H4 hn y'0 ey' kp => ?_⟩
      have hF4 := hF.keep kp
      have eA4 := kp _ _ eA3 Ap
      clear hF eA3 kp ey y0
      obtain ⟨g, q, as, hT, hg, hq, _, _, _, hG, gl⟩ := id hF4
      have al : as.length ≤ 12 := by rw [hG.len]; exact gl
      -- handed
      refine ⟨_, rfl, t, _, _, _, rfl, rfl, .of hT, atI_nat (j := 0) rfl, _, rfl, t, _, _, _, rfl, rfl, .of hT, atI_nat (j := 1) rfl, g, rfl, ⟨_, .of hg⟩, fun G hG0 => ?_⟩
      refine lc_list (xs := as.map V.ref) (fun i H' => ∃ ns : List Addr, ns.length = i ∧ H' G = some (.lst (ns.map V.ref)) ∧ Grp [G] H' ns (gs.take i) ∧ Same H4 H') ?_ ?_ ?_ ?_
      · exact ⟨[], rfl, upd_same, .nil, same_upd hG0⟩
      · rintro i H' hi ⟨ns, _, _, _, s2⟩
        exact .of (s2 _ _ hg)
      · rintro i x H' hi ⟨ns, hl, eG, hns, s2⟩
        rw [List.getElem?_map] at hi
        obtain ⟨a', ha, rfl⟩ := Option.map_eq_some_iff.mp hi
        obtain ⟨g', hg', ea'⟩ := hG.at ha
        have hi2 := (List.getElem?_eq_some_iff.mp ha).1
        refine ⟨rfl, _, rfl, a', _, rfl, .inl (.of (s2 _ _ ea')), fun N hN => ?_⟩
        have NG : G ≠ N := ne_of_none eG hN
        refine ⟨ns.map V.ref, (by rw [upd_ne NG]; exact eG), ?_, ns ++ [N], ?_, ?_, ?_, ?_⟩
        · rw [List.length_map, hl]; exact small1000 (by omega)
        · rw [List.length_append, hl]; rfl
        · rw [upd_same, List.map_append]; rfl
        · rw [List.take_add_one, hg']
          have hb : ∀ b, b ∉ [G] → b ≠ G := fun b hb => by simpa using hb
          refine Grp.snoc ?_ (by simpa using NG.symm) (hns.keep fun b o e n => ⟨?_, n⟩)
          · rw [upd_ne NG.symm, upd_same]
          · rw [upd_ne (hb b n), upd_ne (ne_of_none e hN)]; exact e
        · intro b o e
          rw [upd_ne (ne_of_none e hG0), upd_ne (ne_of_none (s2 b o e) hN)]
          exact s2 b o e
      rintro H5 ⟨ns5, nl5, eG, hns, s5⟩
      rw [List.length_map] at nl5 hns
      rw [List.take_of_length_le (by rw [hG.len]; exact Nat.le_refl _)] at hns
      refine ⟨_, rfl, t, _, _, _, rfl, rfl, .of (s5 _ _ hT), atI_nat (j := 2) rfl, q, _, rfl, .inl (.of (s5 _ _ hq)), fun S hS0 => ⟨_, rfl, t, _, _, _, rfl, rfl, .of (same_upd hS0 _ _ (s5 _ _ hT)), atI_nat (j := 3) rfl, (by show 4 ≤ sizeLine; decide), fun h hh => ?_⟩⟩
      have s6 : Same H5 (upd (upd H5 S (.lst (ss.map V.int))) h (.tup [.int st, .ref G, .ref S, .int e])) := (same_upd hS0).trans (same_upd hh)
      have eS : (upd (upd H5 S (.lst (ss.map V.int))) h (.tup [.int st, .ref G, .ref S, .int e])) S = some (.lst (ss.map V.int)) := same_upd hh _ _ upd_same
      have eh : (upd (upd H5 S (.lst (ss.map V.int))) h (.tup [.int st, .ref G, .ref S, .int e])) h = some (.tup [.int st, .ref G, .ref S, .int e]) := upd_same
      have nSA : A ≠ S := ne_of_none (s5 _ _ eA4) hS0
      have hDp : Dp K (upd (upd H5 S (.lst (ss.map V.int))) h (.tup [.int st, .ref G, .ref S, .int e])) (.ref h) (sdata st e gs ss) :=
        .tup (.of eh) (.cons (.int _) (.cons (.lst (.of (s6 _ _ eG)) (hns.keep (bad' := [G]) fun b o e n => ⟨s6 _ _ e, n⟩).dp) (.cons (.lst (.of eS) dp_ints) (.cons (.int _) .nil))))
      generalize upd (upd H5 S (.lst (ss.map V.int))) h (.tup [.int st, .ref G, .ref S, .int e]) = H6 at s6 eS eh hDp ⊢
      have s46 := s5.trans s6
      clear s6 s5 hns eG hS0 hh
      -- bare
      refine ⟨_, rfl, t, _, _, _, rfl, rfl, .of (s46 _ _ hT), atI_nat (j := 0) rfl, _, rfl, t, _, _, _, rfl, rfl, .of (s46 _ _ hT), atI_nat (j := 1) rfl, g, _, rfl, .inl (.of (s46 _ _ hg)), _, rfl, ?_, ?_, fun B hB0 => ?_⟩
      · rw [List.length_map]; omega
      · rw [List.length_map]; omega
      refine lc_range (lo := 0) (n := _) (fun i H' => ∃ ns : List Addr, ns.length = i ∧ H' B = some (.lst (ns.map V.ref)) ∧ Same H6 H') ?_ ?_ ?_
      · exact ⟨[], rfl, upd_same, same_upd hB0⟩
      · rintro i H' hi ⟨ns, hl, eB, s2⟩
        rw [List.length_map, Int.toNat_natCast] at hi
        refine ⟨rfl, _, rfl, (by show 1 ≤ sizeLine; decide), fun N hN => ?_⟩
        have NB : B ≠ N := ne_of_none eB hN
        refine ⟨ns.map V.ref, (by rw [upd_ne NB]; exact eB), ?_, ns ++ [N], ?_, ?_, ?_⟩
        · rw [List.length_map, hl]; exact small1000 (by omega)
        · rw [List.length_append, hl]; rfl
        · rw [upd_same, List.map_append]; rfl
        · intro b o e
          rw [upd_ne (ne_of_none e hB0), upd_ne (ne_of_none (s2 b o e) hN)]
          exact s2 b o e
      rintro H7 ⟨ns7, nl7, eB, s7⟩
      have s47 := s46.trans s7
      refine ⟨_, rfl, t, _, _, _, rfl, rfl, .of (s47 _ _ hT), atI_nat (j := 2) rfl, q, _, rfl, .inl (.of (s47 _ _ hq)), fun S2 hS2 => ⟨_, rfl, t, _, _, _, rfl, rfl, .of (same_upd hS2 _ _ (s47 _ _ hT)), atI_nat (j := 3) rfl, (by show 4 ≤ sizeLine; decide), fun b hb => ?_⟩⟩
      have s8 : Same H7 (upd (upd H7 S2 (.lst (ss.map V.int))) b (.tup [.int st, .ref B, .ref S2, .int e])) := (same_upd hS2).trans (same_upd hb)
      have pb : PatG K (upd (upd H7 S2 (.lst (ss.map V.int))) b (.tup [.int st, .ref B, .ref S2, .int e])) b st e ss := ⟨B, S2, .of upd_same, .of (same_upd hb _ _ upd_same)⟩
      generalize upd (upd H7 S2 (.lst (ss.map V.int))) b (.tup [.int st, .ref B, .ref S2, .int e]) = H8 at s8 pb ⊢
      have s68 := s7.trans s8
      have s48 := s46.trans s68
      clear s7 s8 s47 s46 eB hB0 hS2 hb
      -- due
      refine ⟨_, rfl, _, rfl, t, st, e, ss, n, rfl, hF4.pat.same s48, hS, hn, fun H9 s9 => ?_⟩
      have s69 := s68.trans s9
      have s49 := s48.trans s9
      have ph : PatG K H9 h st e ss := ⟨G, S, .of (s69 _ _ eh), .of (s69 _ _ eS)⟩
      have pb9 := pb.same s9
      refine ⟨_, rfl, _, rfl, h, st, e, ss, n, rfl, ph, hS, hn, _, rfl, _, rfl, rfl, rfl, h, st, e, ss, n, rfl, ph, hS, hn, _, rfl, _, rfl, b, st, e, ss, n, rfl, pb9, hS, hn, (by show 3 ≤ sizeLine; decide), fun L hL0 => ⟨_, rfl, ⟨_, .of upd_same⟩, ?_⟩⟩
      refine for_list (xs := [V.int (many st e ss n), V.int (many st e ss n), V.int (many st e ss n)]) (fun _ σ H' => Same H9 H' ∧ H' L = some (.lst [V.int (many st e ss n), V.int (many st e ss n), V.int (many st e ss n)]) ∧ ∃ x8, σ = [some (.ref a), some (.int c), some (.ref p), some (.ref t), some (.int n), some (.ref h), some (.ref b), some (.int (many st e ss n)), x8, x9, x10, x11]) ?_ ?_ ?_ ?_
      · exact ⟨same_upd hL0, upd_same, _, rfl⟩
      · rintro i σ H' _ ⟨_, eL, _⟩
        exact .of eL
      · rintro i x σ H' hi ⟨sm, eL, x8, rfl⟩
        obtain rfl : x = V.int (many st e ss n) := by
          have := List.mem_of_getElem? hi
          simpa using this
        exact ⟨_, rfl, _, rfl, _, rfl, _, rfl, _, rfl, rfl, _, rfl, iteNS rfl ⟨sm, eL, _, rfl⟩⟩
      rintro σ H10 ⟨s10, _, x8, rfl⟩
      have s610 := s69.trans s10
      have s410 := s49.trans s10
      -- handed != shape
      refine ⟨_, rfl, _, rfl, sdata st e gs ss, sdata st e gs ss, dp_same s610 hDp, dp_same s410 hF4.dp, sdata_ok _ _ _ _, sdata_ok _ _ _ _, _, rfl, ?_⟩
      rw [SeqAt.eqv_refl _ (SeqAt.canLay_of_shaped (sdata_ok st e gs ss))]
      refine iteF ?_
      -- steps
      refine ⟨_, rfl, h, _, _, _, rfl, rfl, .of (s610 _ _ eh), atI_nat (j := 2) rfl, ?_⟩
      refine ⟨_, rfl, Nat.zero_le _, fun Z hZ => ⟨.list (ss.map PyData.int), .list [], .lst (.of (same_upd hZ _ _ (s610 _ _ eS))) dp_ints, .lst (.of upd_same) .nil, list_ok _, rfl, _, rfl, ?_⟩⟩
      have s11 := s610.trans (same_upd (o := .lst []) hZ)
      have eA11 := same_upd (o := .lst []) hZ _ _ (s410 _ _ eA4)
      generalize upd H10 Z (.lst []) = H11 at s11 eA11 ⊢
      cases ss with
      | nil => exact iteF ⟨eA11, _, _, _, _, _, _, _, _, _, _, _, rfl⟩
      | cons v r =>
        refine iteT ?_
        refine ⟨_, rfl, S, _, _, _, rfl, rfl, .of (s11 _ _ eS), atI_nat (j := 0) rfl, _, _, rfl, rfl, _, rfl, S, _, _, 0, rfl, rfl, s11 _ _ eS, ixN_nat (j := 0) (by rw [List.length_map]; exact Nat.succ_pos _), ?_⟩
        have hS' := shp_turn hS
        have hSn : h ≠ S := ne_of (s11 _ _ eh) (s11 _ _ eS) (by intro z; cases z)
        have pat : PatG K (upd H11 S (.lst (((v :: r).map V.int).set 0 (V.int (3 - v))))) h st e ((3 - v) :: r) := ⟨G, S, .of (by rw [upd_ne hSn]; exact s11 _ _ eh), .of upd_same⟩
        refine ⟨_, rfl, _, rfl, h, st, e, _, n, rfl, pat, hS', hn, _, rfl, _, rfl, h, st, e, _, n, rfl, pat, hS', hn, fun H12 s12 => ⟨rfl, _, rfl, iteNS rfl ⟨s12 _ _ ?_, _, _, _, _, _, _, _, _, _, _, _, rfl⟩⟩⟩
        rw [upd_ne nSA]
        exact eA11
    · rintro σ H' _
      exact k _
end
theorem all_mk {l : PySem.W.OpenLaw} {w : World} {K : PySem.W.Frag} {h : Heap} {mg : Str → Option Value} {fa f_length_of f_freedom_of f_plans_with f_law_is_integer f_law_spring f_law_draw f_law_shape f_law_due f_law_days f_law : Addr} (X : K.In h) (G : h.Ns mainGlobals mg) (hfa : mg "law" = some (.ref fa))
    {od_length_of an_length_of : Option Addr} {sl_length_of : Array (Option Value)} {oc_length_of kV_length_of dc_length_of pm_length_of cd_length_of ct_length_of : Value}
    {od_freedom_of an_freedom_of : Option Addr} {sl_freedom_of : Array (Option Value)} {oc_freedom_of kV_freedom_of dc_freedom_of pm_freedom_of cd_freedom_of ct_freedom_of : Value}
    {od_plans_with an_plans_with : Option Addr} {sl_plans_with : Array (Option Value)} {oc_plans_with kV_plans_with dc_plans_with pm_plans_with cd_plans_with ct_plans_with : Value}
    {od_law_is_integer an_law_is_integer : Option Addr} {sl_law_is_integer : Array (Option Value)} {oc_law_is_integer kV_law_is_integer dc_law_is_integer pm_law_is_integer cd_law_is_integer ct_law_is_integer : Value}
    {od_law_spring an_law_spring : Option Addr} {sl_law_spring : Array (Option Value)} {oc_law_spring kV_law_spring dc_law_spring pm_law_spring cd_law_spring ct_law_spring : Value}
    {od_law_draw an_law_draw : Option Addr} {sl_law_draw : Array (Option Value)} {oc_law_draw kV_law_draw dc_law_draw pm_law_draw cd_law_draw ct_law_draw : Value}
    {od_law_shape an_law_shape : Option Addr} {sl_law_shape : Array (Option Value)} {oc_law_shape kV_law_shape dc_law_shape pm_law_shape cd_law_shape ct_law_shape : Value}
    {od_law_due an_law_due : Option Addr} {sl_law_due : Array (Option Value)} {oc_law_due kV_law_due dc_law_due pm_law_due cd_law_due ct_law_due : Value}
    {od_law_days an_law_days : Option Addr} {sl_law_days : Array (Option Value)} {oc_law_days kV_law_days dc_law_days pm_law_days cd_law_days ct_law_days : Value}
    {od_law an_law : Option Addr} {sl_law : Array (Option Value)} {oc_law kV_law dc_law pm_law cd_law ct_law : Value}
    (a_length_of : PySem.W.nsIn K mainGlobals "length_of" = some (some (.ref f_length_of)))
    (l_length_of : K.lookup f_length_of = some ⟨oc_length_of, od_length_of, .func (PySem.W.fnOf "length_of" "length_of" (defArgs s_length_of) (defBody s_length_of) (defScope s_length_of) .none kV_length_of dc_length_of pm_length_of an_length_of cd_length_of ct_length_of), sl_length_of⟩)
    (c_length_of : PySem.W.codeIn K cd_length_of "length_of" = true)
    (k_length_of : PySem.W.keepIn K (.ref f_length_of) = true)
    (a_freedom_of : PySem.W.nsIn K mainGlobals "freedom_of" = some (some (.ref f_freedom_of)))
    (l_freedom_of : K.lookup f_freedom_of = some ⟨oc_freedom_of, od_freedom_of, .func (PySem.W.fnOf "freedom_of" "freedom_of" (defArgs s_freedom_of) (defBody s_freedom_of) (defScope s_freedom_of) .none kV_freedom_of dc_freedom_of pm_freedom_of an_freedom_of cd_freedom_of ct_freedom_of), sl_freedom_of⟩)
    (c_freedom_of : PySem.W.codeIn K cd_freedom_of "freedom_of" = true)
    (k_freedom_of : PySem.W.keepIn K (.ref f_freedom_of) = true)
    (a_plans_with : PySem.W.nsIn K mainGlobals "plans_with" = some (some (.ref f_plans_with)))
    (l_plans_with : K.lookup f_plans_with = some ⟨oc_plans_with, od_plans_with, .func (PySem.W.fnOf "plans_with" "plans_with" (defArgs s_plans_with) (defBody s_plans_with) (defScope s_plans_with) .none kV_plans_with dc_plans_with pm_plans_with an_plans_with cd_plans_with ct_plans_with), sl_plans_with⟩)
    (c_plans_with : PySem.W.codeIn K cd_plans_with "plans_with" = true)
    (k_plans_with : PySem.W.keepIn K (.ref f_plans_with) = true)
    (a_law_is_integer : PySem.W.nsIn K mainGlobals "_law_is_integer" = some (some (.ref f_law_is_integer)))
    (l_law_is_integer : K.lookup f_law_is_integer = some ⟨oc_law_is_integer, od_law_is_integer, .func (PySem.W.fnOf "_law_is_integer" "_law_is_integer" (defArgs s_law_is_integer) (defBody s_law_is_integer) (defScope s_law_is_integer) .none kV_law_is_integer dc_law_is_integer pm_law_is_integer an_law_is_integer cd_law_is_integer ct_law_is_integer), sl_law_is_integer⟩)
    (c_law_is_integer : PySem.W.codeIn K cd_law_is_integer "_law_is_integer" = true)
    (k_law_is_integer : PySem.W.keepIn K (.ref f_law_is_integer) = true)
    (a_law_spring : PySem.W.nsIn K mainGlobals "_law_spring" = some (some (.ref f_law_spring)))
    (l_law_spring : K.lookup f_law_spring = some ⟨oc_law_spring, od_law_spring, .func (PySem.W.fnOf "_law_spring" "_law_spring" (defArgs s_law_spring) (defBody s_law_spring) (defScope s_law_spring) .none kV_law_spring dc_law_spring pm_law_spring an_law_spring cd_law_spring ct_law_spring), sl_law_spring⟩)
    (c_law_spring : PySem.W.codeIn K cd_law_spring "_law_spring" = true)
    (k_law_spring : PySem.W.keepIn K (.ref f_law_spring) = true)
    (a_law_draw : PySem.W.nsIn K mainGlobals "_law_draw" = some (some (.ref f_law_draw)))
    (l_law_draw : K.lookup f_law_draw = some ⟨oc_law_draw, od_law_draw, .func (PySem.W.fnOf "_law_draw" "_law_draw" (defArgs s_law_draw) (defBody s_law_draw) (defScope s_law_draw) .none kV_law_draw dc_law_draw pm_law_draw an_law_draw cd_law_draw ct_law_draw), sl_law_draw⟩)
    (c_law_draw : PySem.W.codeIn K cd_law_draw "_law_draw" = true)
    (k_law_draw : PySem.W.keepIn K (.ref f_law_draw) = true)
    (a_law_shape : PySem.W.nsIn K mainGlobals "_law_shape" = some (some (.ref f_law_shape)))
    (l_law_shape : K.lookup f_law_shape = some ⟨oc_law_shape, od_law_shape, .func (PySem.W.fnOf "_law_shape" "_law_shape" (defArgs s_law_shape) (defBody s_law_shape) (defScope s_law_shape) .none kV_law_shape dc_law_shape pm_law_shape an_law_shape cd_law_shape ct_law_shape), sl_law_shape⟩)
    (c_law_shape : PySem.W.codeIn K cd_law_shape "_law_shape" = true)
    (k_law_shape : PySem.W.keepIn K (.ref f_law_shape) = true)
    (a_law_due : PySem.W.nsIn K mainGlobals "_law_due" = some (some (.ref f_law_due)))
    (l_law_due : K.lookup f_law_due = some ⟨oc_law_due, od_law_due, .func (PySem.W.fnOf "_law_due" "_law_due" (defArgs s_law_due) (defBody s_law_due) (defScope s_law_due) .none kV_law_due dc_law_due pm_law_due an_law_due cd_law_due ct_law_due), sl_law_due⟩)
    (c_law_due : PySem.W.codeIn K cd_law_due "_law_due" = true)
    (k_law_due : PySem.W.keepIn K (.ref f_law_due) = true)
    (a_law_days : PySem.W.nsIn K mainGlobals "_law_days" = some (some (.ref f_law_days)))
    (l_law_days : K.lookup f_law_days = some ⟨oc_law_days, od_law_days, .func (PySem.W.fnOf "_law_days" "_law_days" (defArgs s_law_days) (defBody s_law_days) (defScope s_law_days) .none kV_law_days dc_law_days pm_law_days an_law_days cd_law_days ct_law_days), sl_law_days⟩)
    (c_law_days : PySem.W.codeIn K cd_law_days "_law_days" = true)
    (k_law_days : PySem.W.keepIn K (.ref f_law_days) = true)
    (a_law : PySem.W.nsIn K mainGlobals "law" = some (some (.ref f_law)))
    (l_law : K.lookup f_law = some ⟨oc_law, od_law, .func (PySem.W.fnOf "law" "law" (defArgs s_law) (defBody s_law) (defScope s_law) .none kV_law dc_law pm_law an_law cd_law ct_law), sl_law⟩)
    (c_law : PySem.W.codeIn K cd_law "law" = true)
    (k_law : PySem.W.keepIn K (.ref f_law) = true)
    (z_bool : PySem.W.nsIn K mainGlobals "bool" = some none)
    (z_int : PySem.W.nsIn K mainGlobals "int" = some none)
    (z_isinstance : PySem.W.nsIn K mainGlobals "isinstance" = some none)
    (z_len : PySem.W.nsIn K mainGlobals "len" = some none)
    (z_list : PySem.W.nsIn K mainGlobals "list" = some none)
    (z_range : PySem.W.nsIn K mainGlobals "range" = some none)
    (z_sum : PySem.W.nsIn K mainGlobals "sum" = some none)
    (y_comb : PySem.W.nsIn K mainGlobals "comb" = some (some (.builtin "math.comb")))
    : ∃ fd : FuncData, (∀ (s : Shared) (v : Value), BindsTo s fd ⟨[v], []⟩ [("script", v)]) ∧ ∀ base : Heap, K.In base → base.Ns mainGlobals mg → FnOk l.prog w K mg base CX0 3 fa fd ["script"] (spLaw K) := by
  have e := hfa.symm.trans (PySem.W.mg_of X G a_law)
  cases e
  have F_length_of := fun_mk (st := s_length_of) l_length_of c_length_of k_length_of
  have b_length_of := F_length_of.binds (ps := ["pattern"]) fun _ _ _ _ _ _ us hl => match us, hl with | [_], _ => rfl
  have F_freedom_of := fun_mk (st := s_freedom_of) l_freedom_of c_freedom_of k_freedom_of
  have b_freedom_of := F_freedom_of.binds (ps := ["pattern"]) fun _ _ _ _ _ _ us hl => match us, hl with | [_], _ => rfl
  have F_plans_with := fun_mk (st := s_plans_with) l_plans_with c_plans_with k_plans_with
  have b_plans_with := F_plans_with.binds (ps := ["pattern", "n"]) fun _ _ _ _ _ _ us hl => match us, hl with | [_, _], _ => rfl
  have F_law_is_integer := fun_mk (st := s_law_is_integer) l_law_is_integer c_law_is_integer k_law_is_integer
  have b_law_is_integer := F_law_is_integer.binds (ps := ["found"]) fun _ _ _ _ _ _ us hl => match us, hl with | [_], _ => rfl
  have F_law_spring := fun_mk (st := s_law_spring) l_law_spring c_law_spring k_law_spring
  have b_law_spring := F_law_spring.binds (ps := ["cell"]) fun _ _ _ _ _ _ us hl => match us, hl with | [_], _ => rfl
  have F_law_draw := fun_mk (st := s_law_draw) l_law_draw c_law_draw k_law_draw
  have b_law_draw := F_law_draw.binds (ps := ["spring", "many"]) fun _ _ _ _ _ _ us hl => match us, hl with | [_, _], _ => rfl
  have F_law_shape := fun_mk (st := s_law_shape) l_law_shape c_law_shape k_law_shape
  have b_law_shape := F_law_shape.binds (ps := ["spring"]) fun _ _ _ _ _ _ us hl => match us, hl with | [_], _ => rfl
  have F_law_due := fun_mk (st := s_law_due) l_law_due c_law_due k_law_due
  have b_law_due := F_law_due.binds (ps := ["shape", "days"]) fun _ _ _ _ _ _ us hl => match us, hl with | [_, _], _ => rfl
  have F_law_days := fun_mk (st := s_law_days) l_law_days c_law_days k_law_days
  have b_law_days := F_law_days.binds (ps := ["spring", "shape"]) fun _ _ _ _ _ _ us hl => match us, hl with | [_, _], _ => rfl
  have F_law := fun_mk (st := s_law) l_law c_law k_law
  have b_law := F_law.binds (ps := ["script"]) fun _ _ _ _ _ _ us hl => match us, hl with | [_], _ => rfl
  let T : Tx K mg := { f_length_of := f_length_of, d_length_of := _, F_length_of := F_length_of, b_length_of := b_length_of, g_length_of := PySem.W.mg_of X G a_length_of, f_freedom_of := f_freedom_of, d_freedom_of := _, F_freedom_of := F_freedom_of, b_freedom_of := b_freedom_of, g_freedom_of := PySem.W.mg_of X G a_freedom_of, f_plans_with := f_plans_with, d_plans_with := _, F_plans_with := F_plans_with, b_plans_with := b_plans_with, g_plans_with := PySem.W.mg_of X G a_plans_with, f_law_is_integer := f_law_is_integer, d_law_is_integer := _, F_law_is_integer := F_law_is_integer, b_law_is_integer := b_law_is_integer, g_law_is_integer := PySem.W.mg_of X G a_law_is_integer, f_law_spring := f_law_spring, d_law_spring := _, F_law_spring := F_law_spring, b_law_spring := b_law_spring, g_law_spring := PySem.W.mg_of X G a_law_spring, f_law_draw := f_law_draw, d_law_draw := _, F_law_draw := F_law_draw, b_law_draw := b_law_draw, g_law_draw := PySem.W.mg_of X G a_law_draw, f_law_shape := f_law_shape, d_law_shape := _, F_law_shape := F_law_shape, b_law_shape := b_law_shape, g_law_shape := PySem.W.mg_of X G a_law_shape, f_law_due := f_law_due, d_law_due := _, F_law_due := F_law_due, b_law_due := b_law_due, g_law_due := PySem.W.mg_of X G a_law_due, f_law_days := f_law_days, d_law_days := _, F_law_days := F_law_days, b_law_days := b_law_days, g_law_days := PySem.W.mg_of X G a_law_days, f_law := fa, d_law := _, F_law := F_law, b_law := b_law, g_law := PySem.W.mg_of X G a_law, m_bool := PySem.W.mg_none_of X G z_bool, m_int := PySem.W.mg_none_of X G z_int, m_isinstance := PySem.W.mg_none_of X G z_isinstance, m_len := PySem.W.mg_none_of X G z_len, m_list := PySem.W.mg_none_of X G z_list, m_range := PySem.W.mg_none_of X G z_range, m_sum := PySem.W.mg_none_of X G z_sum, m_comb := PySem.W.mg_of X G y_comb }
  exact ⟨PySem.W.fnOf "law" "law" (defArgs s_law) (defBody s_law) (defScope s_law) .none kV_law dc_law pm_law an_law cd_law ct_law, fun s v => .of_eq rfl, fun base _ _ => ok_law T⟩
end K15
open PySem PySem.W PyProof.Rows
set_option maxHeartbeats 0 in
theorem PySem.Challenge.cw_plandays_k15_lists_with_a_pattern_holds : PySem.Challenge.rw_plandays_k15_lists_with_a_pattern.Holds := by
  w_on; o_law; k_head; (case hw => w_witness2)
  k_fill
  refine L2.walk_of (l := PySem.Challenge.rw_plandays_k15_lists_with_a_pattern) (n := 63) (k := 3) (x := "script") (CX := fun _ => L2.CX0) (sp := fun w => K15.spLaw _) rfl (by decide) rfl ⟨rfl, by decide, by decide⟩ (fun w h Y => PySem.W.kIn_of Y) ?F (fun _ _ a ns hl _ hS => ⟨a, ns, rfl, hS, hl, fun _ => rfl⟩) (fun _ _ _ _ _ h => h)
  case F =>
    intro w mg fa h KX G hmg
    refine' K15.all_mk KX G hmg ?a_length_of ?l_length_of ?c_length_of ?k_length_of ?a_freedom_of ?l_freedom_of ?c_freedom_of ?k_freedom_of ?a_plans_with ?l_plans_with ?c_plans_with ?k_plans_with ?a_law_is_integer ?l_law_is_integer ?c_law_is_integer ?k_law_is_integer ?a_law_spring ?l_law_spring ?c_law_spring ?k_law_spring ?a_law_draw ?l_law_draw ?c_law_draw ?k_law_draw ?a_law_shape ?l_law_shape ?c_law_shape ?k_law_shape ?a_law_due ?l_law_due ?c_law_due ?k_law_due ?a_law_days ?l_law_days ?c_law_days ?k_law_days ?a_law ?l_law ?c_law ?k_law ?z_bool ?z_int ?z_isinstance ?z_len ?z_list ?z_range ?z_sum ?y_comb
    (case a_length_of => k_is)
    (case l_length_of => k_is)
    (case c_length_of => k_is)
    (case k_length_of => k_is)
    (case a_freedom_of => k_is)
    (case l_freedom_of => k_is)
    (case c_freedom_of => k_is)
    (case k_freedom_of => k_is)
    (case a_plans_with => k_is)
    (case l_plans_with => k_is)
    (case c_plans_with => k_is)
    (case k_plans_with => k_is)
    (case a_law_is_integer => k_is)
    (case l_law_is_integer => k_is)
    (case c_law_is_integer => k_is)
    (case k_law_is_integer => k_is)
    (case a_law_spring => k_is)
    (case l_law_spring => k_is)
    (case c_law_spring => k_is)
    (case k_law_spring => k_is)
    (case a_law_draw => k_is)
    (case l_law_draw => k_is)
    (case c_law_draw => k_is)
    (case k_law_draw => k_is)
    (case a_law_shape => k_is)
    (case l_law_shape => k_is)
    (case c_law_shape => k_is)
    (case k_law_shape => k_is)
    (case a_law_due => k_is)
    (case l_law_due => k_is)
    (case c_law_due => k_is)
    (case k_law_due => k_is)
    (case a_law_days => k_is)
    (case l_law_days => k_is)
    (case c_law_days => k_is)
    (case k_law_days => k_is)
    (case a_law => k_is)
    (case l_law => k_is)
    (case c_law => k_is)
    (case k_law => k_is)
    (case z_bool => k_is)
    (case z_int => k_is)
    (case z_isinstance => k_is)
    (case z_len => k_is)
    (case z_list => k_is)
    (case z_range => k_is)
    (case z_sum => k_is)
    (case y_comb => k_is)

