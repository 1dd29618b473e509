import PyProof.Rows.All
import Wide.All
import OpenK.AllK
import Wide.FinOn
import HandS.ForMost
import HandS.Wide
import HandS.Gcd
import HandS.SetFor
import HandS.IsInst
import HandS.Codes
import KE.KMathGC
import Flt.Len
import PySem.Challenge.RW_plandays_k17_one_day_more
set_option Elab.async false
set_option linter.all false
set_option maxRecDepth 100000
/-! Law k17: one day more. The mathematics first, then one promise a def. -/
namespace K17
open PySem
abbrev fp := Builtin.Math.fallingProduct
def gb : Nat → Nat → Nat
  | 0, _ => 1
  | _+1, 0 => 1
  | s+1, j+1 => gb s (j+1) + gb (s+1) j
theorem gb_r (s : Nat) : gb s 0 = 1 := by cases s <;> simp [gb]
theorem gb_l (j : Nat) : gb 0 j = 1 := by simp [gb]
theorem gb_s (s j : Nat) : gb (s+1) (j+1) = gb s (j+1) + gb (s+1) j := by rw [gb]
theorem gb_comm : ∀ (s j : Nat), gb s j = gb j s
  | 0, j => by rw [gb_l, gb_r]
  | s+1, 0 => by rw [gb_l, gb_r]
  | s+1, j+1 => by rw [gb_s, gb_s, gb_comm s (j+1), gb_comm (s+1) j, Nat.add_comm]
theorem fp_head (n : Int) : ∀ k : Nat, fp (n+1) (k+1) = (n+1) * fp n k
  | 0 => by
    show Builtin.Math.fallingProduct (n+1) 1 = (n+1) * Builtin.Math.fallingProduct n 0
    rw [W.mc_fp_one, W.mc_fp_zero, Int.mul_one]
  | k+1 => by
    have ih := fp_head n k
    show Builtin.Math.fallingProduct (n+1) (k+1+1) = (n+1) * Builtin.Math.fallingProduct n (k+1)
    rw [W.mc_fp_succ (n+1) (k+1), W.mc_fp_succ n k]
    have ih' : Builtin.Math.fallingProduct (n+1) (k+1) = (n+1) * Builtin.Math.fallingProduct n k := ih
    rw [ih', show n + 1 - ((k+1 : Nat) : Int) = n - (k : Int) by omega, Int.mul_assoc]
theorem fct_succ (k : Nat) : fp ((k+1 : Nat) : Int) (k+1) = ((k : Int)+1) * fp k k := fp_head (k : Int) k
theorem fp_gb : ∀ (s j : Nat), fp ((s : Int) + j) j = (gb s j : Int) * fp j j
  | 0, j => by
    rw [gb_l, show ((0 : Nat) : Int) + (j : Int) = (j : Int) by omega]
    show fp j j = (1 : Int) * fp j j
    rw [Int.one_mul]
  | s+1, 0 => by
    rw [gb_r]
    rfl
  | s+1, j+1 => by
    have h1 := fp_gb s (j+1)
    have h2 := fp_gb (s+1) j
    have h3 : fp (((s+1 : Nat) : Int) + ((j+1 : Nat) : Int)) (j+1) = ((s : Int) + j + 1 + 1) * fp ((s : Int) + j + 1) j := by
      rw [show ((s+1 : Nat) : Int) + ((j+1 : Nat) : Int) = ((s : Int) + j + 1) + 1 by omega]
      exact fp_head _ _
    have h4 : fp ((s : Int) + ((j+1 : Nat) : Int)) (j+1) = fp ((s : Int) + j + 1) j * ((s : Int) + 1) := by
      rw [show (s : Int) + ((j+1 : Nat) : Int) = (s : Int) + j + 1 by omega]
      show Builtin.Math.fallingProduct ((s : Int) + j + 1) (j+1) = _
      rw [W.mc_fp_succ, show (s : Int) + j + 1 - (j : Int) = (s : Int) + 1 by omega]
    rw [show ((s+1 : Nat) : Int) + (j : Int) = (s : Int) + j + 1 by omega] at h2
    rw [h3, gb_s, fct_succ]
    rw [h4, fct_succ] at h1
    rw [show ((gb s (j+1) + gb (s+1) j : Nat) : Int) = (gb s (j+1) : Int) + (gb (s+1) j : Int) by omega]
    generalize fp ((s : Int) + j + 1) j = A at *
    generalize fp (j : Int) j = B at *
    generalize (gb s (j+1) : Int) = C at *
    generalize (gb (s+1) j : Int) = D at *
    grind
theorem fct_pos (k : Nat) : 1 ≤ fp (k : Int) k := W.mc_fp_pos k (Int.le_refl _)
theorem comb_val (s j : Nat) : fp ((s : Int) + j) (min (j : Int) ((s : Int) + j - j)).toNat / fp (min (j : Int) ((s : Int) + j - j)) (min (j : Int) ((s : Int) + j - j)).toNat = gb s j := by
  by_cases h : j ≤ s
  · rw [show min (j : Int) ((s : Int) + j - j) = j by omega, Int.toNat_natCast, fp_gb]
    have := fct_pos j
    exact Int.mul_ediv_cancel _ (by omega)
  · rw [show min (j : Int) ((s : Int) + j - j) = s by omega, Int.toNat_natCast, Int.add_comm, fp_gb, gb_comm s j]
    have := fct_pos s
    exact Int.mul_ediv_cancel _ (by omega)
theorem fp_abs {n : Int} (h0 : 0 ≤ n) (hn : n < 2 ^ 110) (k : Nat) : (k : Int) ≤ n → (fp n k).natAbs ≤ 2 ^ (110 * k) := by
  induction k with
  | zero => intro _; show (1 : Int).natAbs ≤ 2 ^ (110 * 0); decide
  | succ k ih =>
    intro h
    show (Builtin.Math.fallingProduct n (k+1)).natAbs ≤ _
    rw [W.mc_fp_succ, Int.natAbs_mul, show 110 * (k + 1) = 110 * k + 110 from rfl, Nat.pow_add]
    exact Nat.mul_le_mul (ih (by omega)) (by omega)
theorem gb_size {s j : Nat} (hs : (s : Int) < 2 ^ 109) (hj : j ≤ 64) : ((gb s j : Nat) : Int).natAbs.log2 < bitsLine := by
  have h1 := fp_gb s j
  have h2 := fct_pos j
  have h3 := fp_abs (n := (s : Int) + j) (by omega) (by omega) j (by omega)
  have h4 : (gb s j : Int) ≤ fp ((s : Int) + j) j := by
    rw [h1]
    have := Int.mul_le_mul_of_nonneg_left h2 (show (0 : Int) ≤ (gb s j : Int) by omega)
    omega
  have h5 : (gb s j : Int).natAbs ≤ 2 ^ (110 * j) := by omega
  have h6 : (2 : Nat) ^ (110 * j) < 2 ^ 7050 := Nat.pow_lt_pow_right (by decide) (by omega)
  have h7 : ((gb s j : Nat) : Int).natAbs.log2 < 7050 := PySem.Flt.log2_lt_of (by decide) (Nat.lt_of_le_of_lt h5 h6)
  have : bitsLine = 134217728 := by decide
  omega
/-- how many lists of days there are, by the free days and the free places -/
def pf (s f : Int) : Int := if s < 0 then 0 else if f = 0 then (if s = 0 then 1 else 0) else (gb s.toNat (f - 1).toNat : Int)
theorem pf_neg {s f : Int} (h : s < 0) : pf s f = 0 := by unfold pf; rw [if_pos h]
theorem pf_none {s : Int} (h : 0 ≤ s) : pf s 0 = if s = 0 then 1 else 0 := by unfold pf; rw [if_neg (by omega), if_pos rfl]
theorem pf_some (a b : Nat) : pf (a : Int) ((b : Int) + 1) = gb a b := by
  unfold pf
  rw [if_neg (by omega), if_neg (by omega), show (b : Int) + 1 - 1 = (b : Int) by omega, Int.toNat_natCast, Int.toNat_natCast]
theorem pf_pascal {s f : Int} (hf : 1 ≤ f) : pf s f = pf (s - 1) f + pf s (f - 1) := by
  obtain ⟨b, hb⟩ := Int.eq_ofNat_of_zero_le (show 0 ≤ f - 1 by omega)
  obtain rfl : f = (b : Int) + 1 := by omega
  rw [show (b : Int) + 1 - 1 = b by omega]
  by_cases h : s < 0
  · rw [pf_neg h, pf_neg (show s - 1 < 0 by omega), pf_neg h]; rfl
  · obtain ⟨a, rfl⟩ := Int.eq_ofNat_of_zero_le (show 0 ≤ s by omega)
    rw [pf_some]
    cases a with
    | zero =>
      rw [gb_l, pf_neg (by omega)]
      cases b with
      | zero => rw [show ((0 : Nat) : Int) = 0 from rfl, pf_none (by omega)]; rfl
      | succ e => rw [show ((e + 1 : Nat) : Int) = (e : Int) + 1 by omega, pf_some, gb_l]; rfl
    | succ c =>
      rw [show ((c + 1 : Nat) : Int) - 1 = (c : Int) by omega, pf_some]
      cases b with
      | zero => rw [show ((0 : Nat) : Int) = 0 from rfl, pf_none (by omega), if_neg (by omega), gb_r, gb_r]; rfl
      | succ e => rw [show ((e + 1 : Nat) : Int) = (e : Int) + 1 by omega, pf_some, gb_s]; omega
theorem pf_one {f : Int} : pf 0 f = 1 := by
  unfold pf
  rw [if_neg (by omega)]
  by_cases h : f = 0
  · rw [if_pos h, if_pos rfl]
  · rw [if_neg h, show (0 : Int).toNat = 0 from rfl, gb_l]; rfl
end K17
namespace K17
open PySem PySem.Spec PyProof.Rows L2
/-! ### the text -/
def topS (i : Nat) : Stmt := PySem.Challenge.pw_plandays_k17_one_day_more.main.body.getD i (.Pass ⟨0, 0, 0, 0⟩)
abbrev s_length_of : Stmt := topS 2
theorem sc_length_of : FnScope ["pattern", "start", "_", "steps", "end"] ["pattern"] (defScope s_length_of) := ⟨rfl, rfl, rfl, by decide +kernel, rfl, by decide +kernel, by decide +kernel⟩
abbrev s_freedom_of : Stmt := topS 3
theorem sc_freedom_of : FnScope ["pattern", "start", "_", "steps", "end"] ["pattern"] (defScope s_freedom_of) := ⟨rfl, rfl, rfl, by decide +kernel, rfl, by decide +kernel, by decide +kernel⟩
abbrev s_plans_with : Stmt := topS 4
theorem sc_plans_with : FnScope ["pattern", "n", "spare", "freedom"] ["pattern", "n"] (defScope s_plans_with) := ⟨rfl, rfl, rfl, by decide +kernel, rfl, by decide +kernel, by decide +kernel⟩
abbrev s_law_is_integer : Stmt := topS 6
theorem sc_law_is_integer : FnScope ["found"] ["found"] (defScope s_law_is_integer) := ⟨rfl, rfl, rfl, by decide +kernel, rfl, by decide +kernel, by decide +kernel⟩
abbrev s_law_spring : Stmt := topS 7
theorem sc_law_spring : FnScope ["cell", "low", "mixed", "k"] ["cell"] (defScope s_law_spring) := ⟨rfl, rfl, rfl, by decide +kernel, rfl, by decide +kernel, by decide +kernel⟩
abbrev s_law_draw : Stmt := topS 8
theorem sc_law_draw : FnScope ["spring", "many", "drawn"] ["spring", "many"] (defScope s_law_draw) := ⟨rfl, rfl, rfl, by decide +kernel, rfl, by decide +kernel, by decide +kernel⟩
abbrev s_law_shape : Stmt := topS 9
theorem sc_law_shape : FnScope ["spring", "steps", "groups", "k"] ["spring"] (defScope s_law_shape) := ⟨rfl, rfl, rfl, by decide +kernel, rfl, by decide +kernel, by decide +kernel⟩
abbrev s_law_less : Stmt := topS 10
theorem sc_law_less : FnScope ["shape", "part", "steps", "group"] ["shape", "part"] (defScope s_law_less) := ⟨rfl, rfl, rfl, by decide +kernel, rfl, by decide +kernel, by decide +kernel⟩
abbrev s_law : Stmt := topS 11
theorem sc_law : FnScope ["script", "cell", "spring", "shape", "parts", "length", "way", "days", "now", "before", "k", "part"] ["script"] (defScope s_law) := ⟨rfl, rfl, rfl, by decide +kernel, rfl, by decide +kernel, by decide +kernel⟩
/-- what the top has written, as the walks ask it -/
structure Tx (K : PySem.W.Frag) (mg : Str → Option Value) where
  f_length_of : Addr
  d_length_of : FuncData
  F_length_of : Fun K "length_of" "length_of" s_length_of f_length_of d_length_of
  b_length_of : Binds K d_length_of ["pattern"] []
  g_length_of : mg "length_of" = some (.ref f_length_of)
  f_freedom_of : Addr
  d_freedom_of : FuncData
  F_freedom_of : Fun K "freedom_of" "freedom_of" s_freedom_of f_freedom_of d_freedom_of
  b_freedom_of : Binds K d_freedom_of ["pattern"] []
  g_freedom_of : mg "freedom_of" = some (.ref f_freedom_of)
  f_plans_with : Addr
  d_plans_with : FuncData
  F_plans_with : Fun K "plans_with" "plans_with" s_plans_with f_plans_with d_plans_with
  b_plans_with : Binds K d_plans_with ["pattern", "n"] []
  g_plans_with : mg "plans_with" = some (.ref f_plans_with)
  f_law_is_integer : Addr
  d_law_is_integer : FuncData
  F_law_is_integer : Fun K "_law_is_integer" "_law_is_integer" s_law_is_integer f_law_is_integer d_law_is_integer
  b_law_is_integer : Binds K d_law_is_integer ["found"] []
  g_law_is_integer : mg "_law_is_integer" = some (.ref f_law_is_integer)
  f_law_spring : Addr
  d_law_spring : FuncData
  F_law_spring : Fun K "_law_spring" "_law_spring" s_law_spring f_law_spring d_law_spring
  b_law_spring : Binds K d_law_spring ["cell"] []
  g_law_spring : mg "_law_spring" = some (.ref f_law_spring)
  f_law_draw : Addr
  d_law_draw : FuncData
  F_law_draw : Fun K "_law_draw" "_law_draw" s_law_draw f_law_draw d_law_draw
  b_law_draw : Binds K d_law_draw ["spring", "many"] []
  g_law_draw : mg "_law_draw" = some (.ref f_law_draw)
  f_law_shape : Addr
  d_law_shape : FuncData
  F_law_shape : Fun K "_law_shape" "_law_shape" s_law_shape f_law_shape d_law_shape
  b_law_shape : Binds K d_law_shape ["spring"] []
  g_law_shape : mg "_law_shape" = some (.ref f_law_shape)
  f_law_less : Addr
  d_law_less : FuncData
  F_law_less : Fun K "_law_less" "_law_less" s_law_less f_law_less d_law_less
  b_law_less : Binds K d_law_less ["shape", "part"] []
  g_law_less : mg "_law_less" = some (.ref f_law_less)
  f_law : Addr
  d_law : FuncData
  F_law : Fun K "law" "law" s_law f_law d_law
  b_law : Binds K d_law ["script"] []
  g_law : mg "law" = some (.ref f_law)
  m_bool : mg "bool" = none
  m_int : mg "int" = none
  m_isinstance : mg "isinstance" = none
  m_len : mg "len" = none
  m_list : mg "list" = none
  m_min : mg "min" = none
  m_range : mg "range" = none
  m_sum : mg "sum" = none
  m_comb : mg "comb" = some (.builtin "math.comb")
/-! ### what the values are -/
/-- a pattern stands at t -/
def PatG (K : PySem.W.Frag) (H : Hp) (t : Addr) (st e : Int) (gs : List Addr) (ss : List Int) : Prop :=
  ∃ g q, SqT K H t [.int st, .ref g, .ref q, .int e] ∧ SqL K H g (gs.map V.ref) ∧ SqL K H q (ss.map V.int) ∧ (∀ x ∈ gs, ∃ ys, SqL K H x ys) ∧ gs.length ≤ 20
structure Shp (st e : Int) (ss : List Int) : Prop where
  s0 : 0 ≤ st
  s1 : st ≤ 1
  e0 : 0 ≤ e
  e1 : e ≤ 1
  two : ∀ s ∈ ss, s = 1 ∨ s = 2
  few : ss.length ≤ 12
theorem sum_nn : ∀ {ss : List Int}, (∀ s ∈ ss, s = 1 ∨ s = 2) → 0 ≤ ss.sum
  | [], _ => Int.le_refl _
  | a :: r, h => by
    have h1 := h a List.mem_cons_self
    have h2 := sum_nn (ss := r) fun s hs => h s (List.mem_cons_of_mem _ hs)
    rw [List.sum_cons]
    omega
def len (st e : Int) (ss : List Int) : Int := 1 + st + ss.sum + e
def free (st e : Int) (ss : List Int) : Int := st + (ss.count 2 : Nat) + e
def many (st e : Int) (ss : List Int) (n : Int) : Int := pf (n - len st e ss) (free st e ss)
theorem free_nn {st e : Int} {ss : List Int} (h : Shp st e ss) : 0 ≤ free st e ss := by
  have := h.s0; have := h.e0
  unfold free; omega
theorem free_le {st e : Int} {ss : List Int} (h : Shp st e ss) : free st e ss ≤ 14 := by
  have := h.s1; have := h.e1
  have := List.count_le_length (a := (2 : Int)) (l := ss)
  have := h.few
  unfold free; omega
theorem len_pos {st e : Int} {ss : List Int} (h : Shp st e ss) : 1 ≤ len st e ss := by
  have := h.s0; have := h.e0; have := sum_nn h.two
  unfold len; omega
/-- all but p is as it was -/
def Kp (H H' : Hp) (p : Addr) : Prop := ∀ b o, H b = some o → b ≠ p → H' b = some o
theorem same_upd {H : Hp} {p : Addr} {o : HO} (h : H p = none) : Same H (upd H p o) := fun b x e => by
  rw [upd_ne (ne_of_none e h)]
  exact e
theorem Same.tup {K : PySem.W.Frag} {H H' : Hp} {a : Addr} {xs : List V} (e : Same H H') (h : SqT K H a xs) : SqT K H' a xs := by
  rcases h with (h | ⟨o, h⟩) | h
  · exact .inl (.inl (e _ _ h))
  · exact .inl (.inr ⟨o, e _ _ h⟩)
  · exact .inr h
theorem PatG.same {K : PySem.W.Frag} {H H' : Hp} {t : Addr} {st e : Int} {gs : List Addr} {ss : List Int} (s : Same H H') (h : PatG K H t st e gs ss) : PatG K H' t st e gs ss := by
  obtain ⟨g, q, h1, h2, h3, h4, h5⟩ := h
  refine ⟨g, q, Same.tup s h1, s.seq h2, s.seq h3, fun x hx => ?_, h5⟩
  obtain ⟨ys, hy⟩ := h4 x hx
  exact ⟨ys, s.seq hy⟩
/-- the readings of list(..) and len(..), named -/
def rList (K : PySem.W.Frag) : List V → Hp → VK → Prop := fun xs H Q => ∃ p ys, xs = [.ref p] ∧ (SqL K H p ys ∨ SqT K H p ys) ∧ ∀ l, H l = none → Q (.ref l) (upd H l (.lst ys))
def rLen (K : PySem.W.Frag) : List V → Hp → VK → Prop := fun xs H Q => ∃ p ys, xs = [.ref p] ∧ (SqL K H p ys ∨ SqT K H p ys) ∧ Q (.int ys.length) H
/-! ### comb -/
def rComb : List V → Hp → VK → Prop := fun vs H Q => ∃ s j : Nat, vs = [.int ((s : Int) + j), .int j] ∧ j ≤ 64 ∧ (s : Int) < 2 ^ 109 ∧ Q (.int (gb s j : Nat)) H
theorem cr_comb {X : Cx} : CallR X (.builtin "math.comb") rComb := by
  intro pins s σ H vs us Q I r h
  obtain ⟨a, b, rfl, hb, ha, q⟩ := h
  obtain ⟨t, u, rfl⟩ := Vals.int2 r
  have hv := comb_val a b
  have hs : (fp ((a : Int) + b) (min (b : Int) ((a : Int) + b - b)).toNat / fp (min (b : Int) ((a : Int) + b - b)) (min (b : Int) ((a : Int) + b - b)).toNat).natAbs.log2 < bitsLine := by
    rw [hv]
    exact gb_size ha hb
  have h3 : ¬ min (b : Int) ((a : Int) + b - b) > Builtin.Math.maxSsize := by show ¬ min (b : Int) ((a : Int) + b - b) > 2 ^ 63 - 1; omega
  have h4 : ¬ min (b : Int) ((a : Int) + b - b) > Builtin.Math.manyFactors := by show ¬ min (b : Int) ((a : Int) + b - b) > 20000; omega
  have g := PySem.W.mc_run_comb ((a : Int) + b) t b u (by omega) (by omega) (by omega) h3 h4 (by omega) hs
  have g2 : Gives (Builtin.«math.comb» ⟨[.int ((a : Int) + b) t, .int b u], []⟩) (.int (gb a b : Nat)) := by
    rw [← hv]
    exact g
  exact call_function_meets PySem.W.MGF.kind_comb PySem.W.MGF.plain_comb PySem.W.MGF.entry_comb (PySem.W.MGF.args_comb _ _) g2.meets ⟨.int _, H, I.tok _, ⟨_, rfl⟩, q⟩
section
variable {P : Program} {w : World} {K : PySem.W.Frag} {mg : Str → Option Value} {base : Heap}
/-! ### the program's defs -/
def sp_len (K : PySem.W.Frag) : Sp := fun vs H Q _ => ∃ t st e gs ss, vs = [.ref t] ∧ PatG K H t st e gs ss ∧ Q (.int (len st e ss)) H
theorem ok_length_of (T : Tx K mg) : FnOk P w K mg base CX0 1 T.f_length_of T.d_length_of ["pattern"] (sp_len K) := by
  refine T.F_length_of.ok sc_length_of (fun vs H Q E h => ?_) (fun cdv A outer s H vs Q E hr h => ?_)
  · obtain ⟨t, st, e, gs, ss, rfl, _⟩ := h
    rfl
  · obtain ⟨t, st, e, gs, ss, rfl, ⟨g, q, hT, hg, hq, _⟩, k⟩ := h
    refine ⟨_,
    (pss_cons
      (ps_asg (pv 0) (pg_tup (by rfl) (pgs_cons (pg_name (i := 1) sc_length_of.nd rfl (.inl rfl)) (pgs_cons (pg_name (i := 2) sc_length_of.nd rfl (.inl rfl)) (pgs_cons (pg_name (i := 3) sc_length_of.nd rfl (.inl rfl)) (pgs_cons (pg_name (i := 4) sc_length_of.nd rfl (.inl rfl)) pgs_nil))))))
    (pss_one
      (ps_ret (pe_op op_add (pe_op op_add (pe_op op_add pe_int (pv 1)) (pe_callB (cr_sum rfl) (by rfl) T.m_sum (by decide +kernel) (pa_cons (pv 3) pa_nil))) (pv 4))))), ?_⟩
    refine ⟨_, rfl, t, _, rfl, hT, rfl, _, _, rfl, _, _, rfl, _, _, rfl, _, _, rfl, rfl, ?_⟩
    exact ⟨_, rfl, _, _, rfl, rfl, _, rfl, q, ss, rfl, hq, _, _, rfl, rfl, _, rfl, _, _, rfl, rfl, k⟩
def sp_free (K : PySem.W.Frag) : Sp := fun vs H Q _ => ∃ t st e gs ss, vs = [.ref t] ∧ PatG K H t st e gs ss ∧ Q (.int (free st e ss)) H
theorem ok_freedom_of (T : Tx K mg) : FnOk P w K mg base CX0 1 T.f_freedom_of T.d_freedom_of ["pattern"] (sp_free K) := by
  refine T.F_freedom_of.ok sc_freedom_of (fun vs H Q E h => ?_) (fun cdv A outer s H vs Q E hr h => ?_)
  · obtain ⟨t, st, e, gs, ss, rfl, _⟩ := h
    rfl
  · obtain ⟨t, st, e, gs, ss, rfl, ⟨g, q, hT, hg, hq, _⟩, k⟩ := h
    refine ⟨_,
    (pss_cons
      (ps_asg (pv 0) (pg_tup (by rfl) (pgs_cons (pg_name (i := 1) sc_freedom_of.nd rfl (.inl rfl)) (pgs_cons (pg_name (i := 2) sc_freedom_of.nd rfl (.inl rfl)) (pgs_cons (pg_name (i := 3) sc_freedom_of.nd rfl (.inl rfl)) (pgs_cons (pg_name (i := 4) sc_freedom_of.nd rfl (.inl rfl)) pgs_nil))))))
    (pss_one
      (ps_ret (pe_op op_add (pe_op op_add (pv 1) (pe_bm PySem.F.plainAttrs_list PySem.F.slot_list_count PySem.F.type_list_count mt_lcount (pv 3) (pa_cons pe_int pa_nil))) (pv 4))))), ?_⟩
    refine ⟨_, rfl, t, _, rfl, hT, rfl, _, _, rfl, _, _, rfl, _, _, rfl, _, _, rfl, rfl, ?_⟩
    exact ⟨_, rfl, _, rfl, .inl ⟨rfl, _, hq⟩, q, ss, 2, rfl, rfl, hq, _, _, rfl, rfl, _, rfl, _, _, rfl, rfl, k⟩
def sp_with (K : PySem.W.Frag) : Sp := fun vs H Q _ => ∃ t st e gs ss n, vs = [.ref t, .int n] ∧ PatG K H t st e gs ss ∧ Shp st e ss ∧ n < 2 ^ 100 ∧ Q (.int (many st e ss n)) H
theorem ok_plans_with (T : Tx K mg) : FnOk P w K mg base CX0 2 T.f_plans_with T.d_plans_with ["pattern", "n"] (sp_with K) := by
  refine T.F_plans_with.ok sc_plans_with (fun vs H Q E h => ?_) (fun cdv A outer s H vs Q E hr h => ?_)
  · obtain ⟨t, st, e, gs, ss, n, rfl, _⟩ := h
    rfl
  · obtain ⟨t, st, e, gs, ss, n, rfl, hP, hS, hn, k⟩ := h
    refine ⟨_,
    (pss_cons
      (ps_set (i := 2) sc_plans_with.nd rfl (.inl rfl) (pe_op op_sub (pv 1) (pe_call (ok_length_of T) hr (by rfl) T.g_length_of T.F_length_of.kp T.b_length_of .nil pass0 (pa_cons (pv 0) pa_nil))))
    (pss_cons
      (ps_set (i := 3) sc_plans_with.nd rfl (.inl rfl) (pe_call (ok_freedom_of T) hr (by rfl) T.g_freedom_of T.F_freedom_of.kp T.b_freedom_of .nil pass0 (pa_cons (pv 0) pa_nil)))
    (pss_cons
      (ps_if (pt_cmpR op_lt (pv 2) pe_int (nomark _))
        (pss_one
          (ps_ret pe_int))
        pss_nil)
    (pss_cons
      (ps_if (pt_cmpR op_eq (pv 3) pe_int (nomark _))
        (pss_one
          (ps_ret (pe_ifExp (pt_cmpR op_eq (pv 2) pe_int (nomark _)) pe_int pe_int)))
        pss_nil)
    (pss_one
      (ps_ret (pe_callBfun cr_comb (by rfl) T.m_comb (pa_cons (pe_op op_sub (pe_op op_add (pv 2) (pv 3)) pe_int) (pa_cons (pe_op op_sub (pv 3) pe_int) pa_nil))))))))), ?_⟩
    refine ⟨_, rfl, _, rfl, t, st, e, gs, ss, rfl, hP, _, _, rfl, rfl, ?_⟩
    refine ⟨_, rfl, t, st, e, gs, ss, rfl, hP, ?_⟩
    have hl := len_pos hS
    have hf := free_nn hS
    have hf2 := free_le hS
    unfold many at k
    refine ⟨_, rfl, _, _, rfl, rfl, _, rfl, ite2 (fun c => ?_) (fun c => ?_)⟩
    · rw [pf_neg (of_decide_eq_true c)] at k
      exact k
    · have c0 : ¬ n - len st e ss < 0 := fun z => c (decide_eq_true z)
      refine ⟨_, rfl, rfl, _, rfl, ite2 (fun c => ?_) (fun c => ?_)⟩
      · have c1 : free st e ss = 0 := V.int.inj (of_decide_eq_true c)
        rw [c1, pf_none (by omega)] at k
        refine ⟨_, rfl, rfl, _, rfl, ite2 (fun c => ?_) (fun c => ?_)⟩
        · rw [if_pos (V.int.inj (of_decide_eq_true c))] at k
          exact k
        · rw [if_neg (fun z => c (decide_eq_true (congrArg V.int z)))] at k
          exact k
      · have c1 : free st e ss ≠ 0 := fun z => c (decide_eq_true (congrArg V.int z))
        obtain ⟨a, ha⟩ := Int.eq_ofNat_of_zero_le (show 0 ≤ n - len st e ss by omega)
        obtain ⟨b, hb⟩ := Int.eq_ofNat_of_zero_le (show 0 ≤ free st e ss - 1 by omega)
        rw [ha, show free st e ss = (b : Int) + 1 by omega, pf_some] at k
        refine ⟨_, rfl, _, rfl, _, _, rfl, rfl, _, _, rfl, rfl, _, rfl, _, _, rfl, rfl, a, b, ?_, by omega, by omega, k⟩
        rw [ha]
        show [V.int ((a : Int) + free st e ss - 1), V.int (free st e ss - 1)] = _
        rw [hb, show (a : Int) + free st e ss - 1 = (a : Int) + b by omega]
/-! ### the law's defs -/
def sp_int : Sp := fun vs H Q _ => ∃ i, vs = [.int i] ∧ Q (.bl true) H
theorem ok_law_is_integer (T : Tx K mg) : FnOk P w K mg base CX0 1 T.f_law_is_integer T.d_law_is_integer ["found"] sp_int := by
  refine T.F_law_is_integer.ok sc_law_is_integer (fun vs H Q E h => ?_) (fun cdv A outer s H vs Q E hr h => ?_)
  · obtain ⟨i, rfl, _⟩ := h
    rfl
  · obtain ⟨i, rfl, k⟩ := h
    refine ⟨_,
    (pss_one
      (ps_ret (pe_and (pe_callB call_isi (by rfl) T.m_isinstance (by decide +kernel) (pa_cons (pv 0) (pa_cons (pe_bltn (v := .ty "int") (by rfl) T.m_int (by decide +kernel) rfl) pa_nil))) (pe_one (pe_not (pe_callB call_isi (by rfl) T.m_isinstance (by decide +kernel) (pa_cons (pv 0) (pa_cons (pe_bltn (v := .ty "bool") (by rfl) T.m_bool (by decide +kernel) rfl) pa_nil)))))))), ?_⟩
    refine ⟨_, rfl, _, _, _, _, true, rfl, .ty "int", .base (.int i), kit_ty (by decide +kernel), _, rfl, iteT ?_⟩
    exact ⟨_, rfl, _, _, _, _, false, rfl, .ty "bool", .base (.int i), kit_ty (by decide +kernel), _, rfl, k⟩
def sp_spring : Sp := fun vs H Q _ => ∃ c, vs = [.int c] ∧ ∀ p z, H p = none → 0 ≤ z → Q (.ref p) (upd H p (.lst [.int z]))
theorem ok_law_spring (T : Tx K mg) : FnOk P w K mg base CX0 1 T.f_law_spring T.d_law_spring ["cell"] sp_spring := by
  refine T.F_law_spring.ok sc_law_spring (fun vs H Q E h => ?_) (fun cdv A outer s H vs Q E hr h => ?_)
  · obtain ⟨c, rfl, _⟩ := h
    rfl
  · obtain ⟨c, rfl, k⟩ := h
    refine ⟨_,
    (pss_cons
      (ps_if (pt_cmpR op_ge (pv 0) (pe_op op_pow pe_int pe_int) (nomark _))
        (pss_one
          (ps_ret (pe_lst (pa_cons (pe_op op_sub (pv 0) (pe_op op_pow pe_int pe_int)) pa_nil))))
        pss_nil)
    (pss_cons
      (ps_set (i := 1) sc_law_spring.nd rfl (.inl rfl) (pe_op op_mod (pe_callTy call_int1 (by rfl) T.m_int (by decide +kernel) (pa_cons (pv 0) pa_nil)) pe_int))
    (pss_cons
      (ps_set (i := 2) sc_law_spring.nd rfl (.inl rfl) pe_int)
    (pss_cons
      (ps_for PassesOwn.never rfl (pi_range1 (by rfl) T.m_range (pa_cons pe_int pa_nil)) (pg_name (i := 3) sc_law_spring.nd rfl (.inl rfl))
        (pss_cons
          (ps_set (i := 1) sc_law_spring.nd rfl (.inl rfl) (pe_op op_mod (pe_callTy call_int1 (by rfl) T.m_int (by decide +kernel) (pa_cons (pe_op op_add (pe_op op_add (pe_op op_add (pe_op op_mul (pv 1) (pv 1)) (pe_op op_mul (pe_op op_add pe_int (pe_op op_mul pe_int (pv 3))) (pv 1))) (pe_op op_mul pe_int (pv 3))) pe_int) pa_nil)) pe_int))
        (pss_one
          (ps_set (i := 2) sc_law_spring.nd rfl (.inl rfl) (pe_op op_add (pe_op op_mul (pv 2) (pe_op op_pow pe_int pe_int)) (pe_op op_fdiv (pv 1) pe_int))))))
    (pss_one
      (ps_ret (pe_lst (pa_cons (pv 2) pa_nil)))))))), ?_⟩
    refine ⟨_, rfl, _, _, rfl, rfl, ⟨by decide, by decide, by decide⟩, _, _, rfl, rfl, _, rfl, ite2 (fun c1 => ?_) (fun _ => ?_)⟩
    · have h1 : (10 : Int) ^ (18 : Int).toNat ≤ c := of_decide_eq_true c1
      refine ⟨_, rfl, _, _, rfl, rfl, ⟨by decide, by decide, by decide⟩, _, _, rfl, rfl, (by show 1 ≤ sizeLine; decide), fun p hp => k p _ hp ?_⟩
      omega
    · refine ⟨_, rfl, .inl ⟨_, rfl, _, _, rfl, rfl, (by show (0 : Int) < 999999999999999989; decide), ?_⟩⟩
      have l0 : 0 ≤ c % 999999999999999989 := Int.emod_nonneg _ (by decide)
      have l1 : c % 999999999999999989 < 999999999999999989 := Int.emod_lt_of_pos _ (by decide)
      refine ⟨10, rfl, by decide, by decide, for_range (n := 10) (fun _ σ H' => ∃ l m x, 0 ≤ l ∧ l < 1000000000000000000 ∧ 0 ≤ m ∧ H' = H ∧ σ = [some (.int c), some (.int l), some (.int m), x]) ?_ ?_ ?_⟩
      · exact ⟨_, 0, none, l0, by omega, by omega, rfl, rfl⟩
      · rintro i σ H' hi ⟨l, m, x, h1, h2, h3, rfl, rfl⟩
        have bl : -(2 ^ 64) < l ∧ l < 2 ^ 64 := by constructor <;> omega
        refine ⟨_, rfl, _, rfl, _, _, rfl, rfl, .inl bl, _, rfl, _, _, rfl, rfl, .inl ⟨by decide, by decide⟩, _, _, rfl, rfl, _, rfl, _, _, rfl, rfl, .inr bl, _, _, rfl, rfl, _, rfl, _, _, rfl, rfl, .inl ⟨by decide, by decide⟩, _, _, rfl, rfl, _, _, rfl, rfl, .inl ⟨_, rfl, _, _, rfl, rfl, (by show (0 : Int) < 999999999999999877; decide), ?_⟩⟩
        refine ⟨_, rfl, _, _, rfl, rfl, ⟨by decide, by decide, by decide⟩, _, _, rfl, rfl, .inr ⟨by decide, by decide⟩, _, rfl, _, _, rfl, rfl, ⟨by decide, by decide⟩, _, _, rfl, rfl, ?_⟩
        refine ⟨_, _, _, Int.emod_nonneg _ (by decide), Int.lt_trans (Int.emod_lt_of_pos _ (by decide)) (by decide), ?_, rfl, rfl⟩
        have a1 : 0 ≤ m * (10 : Int) ^ (17 : Int).toNat := Int.mul_nonneg h3 (by decide)
        exact Int.add_nonneg a1 (Int.ediv_nonneg (Int.emod_nonneg _ (by decide)) (by decide))
      · rintro σ H' ⟨l, m, x, h1, h2, h3, rfl, rfl⟩
        exact ⟨_, rfl, (by show 1 ≤ sizeLine; decide), fun p hp => k p _ hp h3⟩
def sp_draw : Sp := fun vs H Q _ => ∃ p m z, vs = [.ref p, .int m] ∧ H p = some (.lst [.int z]) ∧ 0 ≤ z ∧ 0 < m ∧ m.natAbs.log2 < 9000 ∧ ∀ d y, 0 ≤ d → d < m → 0 ≤ y → Q (.int d) (upd H p (.lst [.int y]))
theorem ok_law_draw (T : Tx K mg) : FnOk P w K mg base CX0 1 T.f_law_draw T.d_law_draw ["spring", "many"] sp_draw := by
  refine T.F_law_draw.ok sc_law_draw (fun vs H Q E h => ?_) (fun cdv A outer s H vs Q E hr h => ?_)
  · obtain ⟨p, m, z, rfl, _⟩ := h
    rfl
  · obtain ⟨p, m, z, rfl, hp, hz, hm, hl, k⟩ := h
    refine ⟨_,
    (pss_cons
      (ps_set (i := 2) sc_law_draw.nd rfl (.inl rfl) (pe_op op_mod (pe_callTy call_int1 (by rfl) T.m_int (by decide +kernel) (pa_cons (pe_ix ix_list (pv 0) pe_int (fun _ _ => rfl)) pa_nil)) (pv 1)))
    (pss_cons
      (ps_asg (pe_op op_fdivW (pe_ix ix_list (pv 0) pe_int (fun _ _ => rfl)) (pv 1)) (pg_sub (pv 0) pe_int set_list))
    (pss_one
      (ps_ret (pv 2))))), ?_⟩
    refine ⟨_, rfl, p, _, _, _, rfl, rfl, .of hp, atI_nat (j := 0) rfl, .inl ⟨_, rfl, _, rfl, _, _, rfl, rfl, hm, ?_⟩⟩
    refine ⟨_, rfl, p, _, _, _, rfl, rfl, .of hp, atI_nat (j := 0) rfl, _, rfl, _, _, rfl, rfl, ⟨hm, hl⟩, _, rfl, p, _, _, 0, rfl, rfl, hp, rfl, ?_⟩
    exact ⟨_, rfl, k _ _ (Int.emod_nonneg _ (by omega)) (Int.emod_lt_of_pos _ hm) (Int.ediv_nonneg hz (by omega))⟩
def sp_shape (K : PySem.W.Frag) : Sp := fun vs H Q _ => ∃ p z, vs = [.ref p] ∧ H p = some (.lst [.int z]) ∧ 0 ≤ z ∧
  ∀ t st e gs ss y H', H t = none → Kp H H' p → H' p = some (.lst [.int y]) → 0 ≤ y → (∀ H2, Kp H' H2 p → PatG K H2 t st e gs ss) → Shp st e ss → Q (.ref t) H'
theorem ok_law_shape (T : Tx K mg) : FnOk P w K mg base CX0 2 T.f_law_shape T.d_law_shape ["spring"] (sp_shape K) := by
  refine T.F_law_shape.ok sc_law_shape (fun vs H Q E h => ?_) (fun cdv A outer s H vs Q E hr h => ?_)
  · obtain ⟨p, z, rfl, _⟩ := h
    rfl
  · obtain ⟨p, z, rfl, hp, hz, k⟩ := h
    refine ⟨_,
    (pss_cons
      (ps_setLc (i := 1) (own := [("k", 3)]) (g := gName 3) rfl sc_law_shape.nd rfl rfl (sw_true rfl rfl rfl (by decide +kernel)) (pi_range1 (by rfl) T.m_range (pa_cons (pe_call (ok_law_draw T) hr (by rfl) T.g_law_draw T.F_law_draw.kp T.b_law_draw .nil pass0 (pa_cons (pv 0) (pa_cons pe_int pa_nil))) pa_nil)) (blkOk_by (N := ["spring", "steps", "groups", "k"]) (sc := defScope s_law_shape) (own := [("k", 3)]) (by decide +kernel)) (fun _ _ _ _ _ => (pg_name (i := 3) sc_law_shape.nd rfl (.inl rfl))) (fun _ _ _ _ _ => pts_nil) (fun _ _ _ _ _ => (pe_op op_add pe_int (pe_call (ok_law_draw T) hr (by rfl) T.g_law_draw T.F_law_draw.kp T.b_law_draw .nil pass0 (pa_cons (pv 0) (pa_cons pe_int pa_nil))))))
    (pss_cons
      (ps_setLc (i := 2) (own := [("k", 3)]) (g := gName 3) rfl sc_law_shape.nd rfl rfl (sw_true rfl rfl rfl (by decide +kernel)) (pi_range1 (by rfl) T.m_range (pa_cons (pe_op op_add (pe_callB call_len_seq (by rfl) T.m_len (by decide +kernel) (pa_cons (pv 1) pa_nil)) pe_int) pa_nil)) (blkOk_by (N := ["spring", "steps", "groups", "k"]) (sc := defScope s_law_shape) (own := [("k", 3)]) (by decide +kernel)) (fun _ _ _ _ _ => (pg_name (i := 3) sc_law_shape.nd rfl (.inl rfl))) (fun _ _ _ _ _ => pts_nil) (fun _ _ _ _ _ => (pe_lst (pa_cons (pv 3) pa_nil))))
    (pss_one
      (ps_ret (pe_tup (pa_cons (pe_call (ok_law_draw T) hr (by rfl) T.g_law_draw T.F_law_draw.kp T.b_law_draw .nil pass0 (pa_cons (pv 0) (pa_cons pe_int pa_nil))) (pa_cons (pv 2) (pa_cons (pv 1) (pa_cons (pe_call (ok_law_draw T) hr (by rfl) T.g_law_draw T.F_law_draw.kp T.b_law_draw .nil pass0 (pa_cons (pv 0) (pa_cons pe_int pa_nil))) pa_nil))))))))), ?_⟩
    -- steps = [..]
    refine ⟨_, rfl, p, 12, z, rfl, hp, hz, by decide, by decide +kernel, fun n y1 n0 n1 y10 => ⟨n, rfl, by omega, by omega, fun D hD => ?_⟩⟩
    have hDp : H D = none := by
      by_cases e : D = p
      · subst e; rw [upd_same] at hD; cases hD
      · rw [upd_ne e] at hD; exact hD
    have pD : p ≠ D := ne_of_none hp hDp
    refine lc_range (lo := 0) (n := n.toNat) (fun i H' => ∃ (y : Int) (ss : List Int), ss.length = i ∧ (∀ s ∈ ss, s = 1 ∨ s = 2) ∧ 0 ≤ y ∧ H' p = some (.lst [.int y]) ∧ H' D = some (.lst (ss.map V.int)) ∧ Kp H H' p) ?_ ?_ ?_
    · refine ⟨y1, [], rfl, (fun _ h => absurd h List.not_mem_nil), y10, ?_, upd_same, fun b o e nb => ?_⟩
      · rw [upd_ne pD, upd_same]
      · rw [upd_ne (ne_of_none e hDp), upd_ne nb]; exact e
    · rintro i H1 hi ⟨y, ss, hl, h2, hy, e1, e2, kp⟩
      refine ⟨rfl, _, rfl, p, 2, y, rfl, e1, hy, by decide, by decide +kernel, fun d y2 d0 d1 y20 => ⟨_, _, rfl, rfl, ss.map V.int, ?_, ?_, y2, ss ++ [1 + d], ?_, ?_, y20, ?_, ?_, ?_⟩⟩
      · rw [upd_ne pD.symm]; exact e2
      · rw [List.length_map, hl]; exact small1000 (by omega)
      · rw [List.length_append, hl]; rfl
      · intro s hs
        rcases List.mem_append.mp hs with h | h
        · exact h2 s h
        · have := List.mem_singleton.mp h
          omega
      · rw [upd_ne pD, upd_same]
      · rw [upd_same, List.map_append]; rfl
      · intro b o e nb
        rw [upd_ne (ne_of_none e hDp), upd_ne nb]
        exact kp b o e nb
    · rintro H1 ⟨y, ss, hl, h2, hy, e1, e2, kp⟩
      -- groups = [[k] for k ..]
      refine ⟨_, rfl, D, _, rfl, .inl (.of e2), _, _, rfl, rfl, _, rfl, ?_, ?_, fun G hG => ?_⟩
      · rw [List.length_map]; omega
      · rw [List.length_map]; omega
      have hGp : p ≠ G := ne_of_none e1 hG
      have hGD : D ≠ G := ne_of_none e2 hG
      refine lc_range (lo := 0) (n := _) (fun i H' => ∃ (gs : List Addr), gs.length = i ∧ H' G = some (.lst (gs.map V.ref)) ∧ (∀ x ∈ gs, x ≠ G ∧ x ≠ p ∧ ∃ v, H' x = some (.lst [v])) ∧ Same H1 H') ?_ ?_ ?_
      · exact ⟨[], rfl, upd_same, (fun _ h => absurd h List.not_mem_nil), same_upd hG⟩
      · rintro i H2 hi ⟨gs, hgl, eG, hgs, sm⟩
        refine ⟨rfl, _, rfl, (by show 1 ≤ sizeLine; decide), fun x hx => ?_⟩
        have xG : G ≠ x := ne_of_none eG hx
        refine ⟨gs.map V.ref, (by rw [upd_ne xG]; exact eG), ?_, gs ++ [x], ?_, ?_, ?_, ?_⟩
        · rw [List.length_map, hgl]
          rw [List.length_map, hl] at hi
          exact small1000 (by omega)
        · rw [List.length_append, hgl]; rfl
        · rw [upd_same, List.map_append]; rfl
        · intro a ha
          rcases List.mem_append.mp ha with h | h
          · obtain ⟨n1, n2, v, hv⟩ := hgs a h
            exact ⟨n1, n2, v, by rw [upd_ne n1, upd_ne (ne_of_none hv hx)]; exact hv⟩
          · have := List.mem_singleton.mp h
            subst this
            exact ⟨xG.symm, (ne_of_none (sm _ _ e1) hx).symm, _, by rw [upd_ne xG.symm, upd_same]⟩
        · intro b o e
          rw [upd_ne (ne_of_none e hG), upd_ne (ne_of_none (sm b o e) hx)]
          exact sm b o e
      · rintro H2 ⟨gs, hgl, eG, hgs, sm⟩
        have e1' := sm _ _ e1
        have e2' := sm _ _ e2
        have f2 : ss.length ≤ 12 := by omega
        refine ⟨_, rfl, p, 2, y, rfl, e1', hy, by decide, by decide +kernel, fun d1 y3 d10 d11 y30 => ⟨_, rfl, _, rfl, _, rfl, p, 2, y3, rfl, upd_same, y30, by decide, by decide +kernel, fun d2 y4 d20 d21 y40 => ⟨(by show 4 ≤ sizeLine; decide), fun t ht => ?_⟩⟩⟩
        rw [upd_upd] at ht ⊢
        have tp : t ≠ p := fun e => by subst e; rw [upd_same] at ht; cases ht
        rw [upd_ne tp] at ht
        have h1t : H1 t = none := sm.free ht
        have tD : D ≠ t := ne_of_none e2' ht
        have tG : G ≠ t := ne_of_none eG ht
        refine k t d1 d2 gs ss y4 _ ?_ ?_ ?_ y40 (fun H5 kk => ⟨G, D, .of (kk _ _ upd_same tp), .of (kk _ _ ?_ hGp.symm), .of (kk _ _ ?_ pD.symm), fun x hx => ?_, by rw [hgl, List.length_map]; omega⟩) ⟨d10, by omega, d20, by omega, h2, f2⟩
        · cases h : H t with
          | none => rfl
          | some o => rw [kp t o h tp] at h1t; cases h1t
        · intro b o e nb
          have e3 := sm b o (kp b o e nb)
          rw [upd_ne (ne_of_none e3 ht), upd_ne nb]
          exact e3
        · rw [upd_ne tp.symm, upd_same]
        · rw [upd_ne tG, upd_ne hGp.symm]; exact eG
        · rw [upd_ne tD, upd_ne pD.symm]; exact e2'
        · obtain ⟨n1, xp, v, hv⟩ := hgs x hx
          exact ⟨[v], .of (kk _ _ (by rw [upd_ne (ne_of_none hv ht), upd_ne xp]; exact hv) xp)⟩
theorem b01 (k : Bool) : -(2 ^ 64) < (if k then (1 : Int) else 0) ∧ (if k then (1 : Int) else 0) < 2 ^ 64 := by cases k <;> decide
theorem ixN_nat {n j : Nat} (hj : j < n) : ixN n (j : Int) = some j := by
  unfold ixN
  rw [if_pos (by omega), if_pos (by omega), Int.toNat_natCast]
/-- what is one less of a pattern -/
def lst (st : Int) (part : Int) : Int := if part = -1 then 0 else st
def lend (e : Int) (part : Int) : Int := if part = -2 then 0 else e
def lss (ss : List Int) (part : Int) : List Int := if 0 ≤ part then ss.set part.toNat 1 else ss
theorem times_ne (st part k : Int) : st * (if (!decide (V.int part = V.int k)) = true then 1 else 0) = if part = k then 0 else st := by
  by_cases h : part = k
  · rw [if_pos h, h, decide_eq_true rfl, Bool.not_true, if_neg Bool.false_ne_true, Int.mul_zero]
  · rw [if_neg h, decide_eq_false (fun z => h (V.int.inj z)), Bool.not_false, if_pos rfl, Int.mul_one]
def sp_less (K : PySem.W.Frag) : Sp := fun vs H Q _ => ∃ t st e gs ss part, vs = [.ref t, .int part] ∧ PatG K H t st e gs ss ∧ (part < 0 ∨ part < ss.length) ∧
  ∀ t' gs' H', Same H H' → PatG K H' t' (lst st part) (lend e part) gs' (lss ss part) → Q (.ref t') H'
theorem ok_law_less (T : Tx K mg) : FnOk P w K mg base CX0 1 T.f_law_less T.d_law_less ["shape", "part"] (sp_less K) := by
  refine T.F_law_less.ok sc_law_less (fun vs H Q E h => ?_) (fun cdv A outer s H vs Q E hr h => ?_)
  · obtain ⟨t, st, e, gs, ss, part, rfl, _⟩ := h
    rfl
  · obtain ⟨t, st, e, gs, ss, part, rfl, ⟨g, q, hT, hg, hq, hx, hgl⟩, hpart, k⟩ := h
    refine ⟨_,
    (pss_cons
      (ps_set (i := 2) sc_law_less.nd rfl (.inl rfl) (pe_callTy call_list_of (by rfl) T.m_list (by decide +kernel) (pa_cons (pe_ix ix_tup (pv 0) pe_int (fun _ _ => rfl)) pa_nil)))
    (C8.pss_cut
      (ps_if (pt_cmpR op_ge (pv 1) pe_int (nomark _))
        (pss_one
          (ps_asg pe_int (pg_sub (pv 2) (pv 1) set_list)))
        pss_nil)
    (pss_one
      (ps_ret (pe_tup (pa_cons (pe_op op_mul (pe_ix ix_tup (pv 0) pe_int (fun _ _ => rfl)) (pe_callTy call_int1 (by rfl) T.m_int (by decide +kernel) (pa_cons (pe_cmpR op_ne (pv 1) (pe_un un_neg pe_int) (nomark _)) pa_nil))) (pa_cons (pe_lc (own := [("group", 3)]) (g := gName 3) rfl sc_law_less.nd (pi_list (pe_ix ix_tup (pv 0) pe_int (fun _ _ => rfl))) (blkOk_by (N := ["shape", "part", "steps", "group"]) (sc := defScope s_law_less) (own := [("group", 3)]) (by decide +kernel)) (fun _ _ _ _ _ => (pg_name (i := 3) sc_law_less.nd rfl (.inl rfl))) (fun _ _ _ _ _ => pts_nil) (fun _ _ _ _ _ => (pe_callTy (T := "list") (r := rList K) call_list_of (by rfl) T.m_list (by decide +kernel) (pa_cons (pv 3) pa_nil)))) (pa_cons (pv 2) (pa_cons (pe_op op_mul (pe_ix ix_tup (pv 0) pe_int (fun _ _ => rfl)) (pe_callTy call_int1 (by rfl) T.m_int (by decide +kernel) (pa_cons (pe_cmpR op_ne (pv 1) (pe_un un_neg pe_int) (nomark _)) pa_nil))) pa_nil))))))))), ?_⟩
    refine ⟨_, rfl, t, _, _, _, rfl, rfl, hT, atI_nat (j := 2) rfl, q, _, rfl, .inl hq, fun D hD => ?_⟩
    refine ⟨fun σ H1 => σ = [some (.ref t), some (.int part), some (.ref D), none] ∧ Same H H1 ∧ H1 D = some (.lst ((lss ss part).map V.int)), ⟨_, rfl, _, _, rfl, rfl, _, rfl, ite2 (fun c => ?_) (fun c => ?_)⟩, ?_⟩
    · have c0 : 0 ≤ part := of_decide_eq_true c
      obtain ⟨j, rfl⟩ := Int.eq_ofNat_of_zero_le c0
      have hj : j < ss.length := by omega
      refine ⟨_, rfl, _, rfl, D, _, _, j, rfl, rfl, upd_same, ixN_nat (by rw [List.length_map]; exact hj), rfl, ?_, ?_⟩
      · rw [upd_upd]; exact same_upd hD
      · rw [upd_same]
        unfold lss
        rw [if_pos c0, Int.toNat_natCast, List.map_set]
    · have c0 : ¬ 0 ≤ part := fun z => c (decide_eq_true z)
      refine ⟨rfl, same_upd hD, ?_⟩
      rw [upd_same]
      unfold lss
      rw [if_neg c0]
    · rintro σ H1 ⟨rfl, sm, eD⟩
      refine ⟨_, rfl, t, _, _, _, rfl, rfl, Same.tup sm hT, atI_nat (j := 0) rfl, _, rfl, _, rfl, rfl, .inr ⟨_, rfl, _, _, rfl, rfl, .inr (b01 _), ?_⟩⟩
      refine ⟨_, rfl, t, _, _, _, rfl, rfl, Same.tup sm hT, atI_nat (j := 1) rfl, g, rfl, ⟨_, sm.seq hg⟩, fun G hG => ?_⟩
      refine lc_list (xs := gs.map V.ref) (fun i H' => ∃ ns : List Addr, ns.length = i ∧ H' G = some (.lst (ns.map V.ref)) ∧ (∀ x ∈ ns, x ≠ G ∧ ∃ ys, H' x = some (.lst ys)) ∧ Same H1 H') ?_ ?_ ?_ ?_
      · exact ⟨[], rfl, upd_same, (fun _ h => absurd h List.not_mem_nil), same_upd hG⟩
      · rintro i H' hi ⟨ns, _, _, _, s2⟩
        exact s2.seq (sm.seq hg)
      · rintro i x H' hi ⟨ns, hl, eG, hns, s2⟩
        rw [List.getElem?_map] at hi
        obtain ⟨a, ha, rfl⟩ := Option.map_eq_some_iff.mp hi
        obtain ⟨ys, hy⟩ := hx a (List.mem_of_getElem? ha)
        refine ⟨rfl, _, rfl, a, ys, rfl, .inl (s2.seq (sm.seq hy)), fun x hx' => ?_⟩
        have xG : G ≠ x := ne_of_none eG hx'
        refine ⟨ns.map V.ref, (by rw [upd_ne xG]; exact eG), ?_, ns ++ [x], ?_, ?_, ?_, ?_⟩
        · rw [List.length_map, hl]
          have hi2 := (List.getElem?_eq_some_iff.mp ha).1
          exact small1000 (by omega)
        · rw [List.length_append, hl]; rfl
        · rw [upd_same, List.map_append]; rfl
        · intro a ha
          rcases List.mem_append.mp ha with h | h
          · obtain ⟨n1, v, hv⟩ := hns a h
            exact ⟨n1, v, by rw [upd_ne n1, upd_ne (ne_of_none hv hx')]; exact hv⟩
          · have := List.mem_singleton.mp h
            subst this
            exact ⟨xG.symm, _, by rw [upd_ne xG.symm, upd_same]⟩
        · intro b o e
          rw [upd_ne (ne_of_none e hG), upd_ne (ne_of_none (s2 b o e) hx')]
          exact s2 b o e
      · rintro H' ⟨ns, hl, eG, hns, s2⟩
        have eD' := s2 _ _ eD
        refine ⟨_, rfl, _, rfl, t, _, _, _, rfl, rfl, Same.tup s2 (Same.tup sm hT), atI_nat (j := 3) rfl, _, rfl, _, rfl, rfl, .inr ⟨_, rfl, _, _, rfl, rfl, .inr (b01 _), ?_⟩⟩
        refine ⟨(by show 4 ≤ sizeLine; decide), fun t' ht => ?_⟩
        refine k t' ns _ ((sm.trans s2).trans (same_upd ht)) ⟨G, D, .of ?_, .of ?_, .of ?_, fun x hx => ?_, by rw [hl, List.length_map]; exact hgl⟩
        · rw [upd_same]
          show some (HO.tup [V.int (st * (if (!decide (V.int part = V.int (-1))) = true then 1 else 0)), V.ref G, V.ref D, V.int (e * (if (!decide (V.int part = V.int (-2))) = true then 1 else 0))]) = _
          rw [times_ne, times_ne]
          rfl
        · rw [upd_ne (ne_of_none eG ht)]; exact eG
        · rw [upd_ne (ne_of_none eD' ht)]; exact eD'
        · obtain ⟨n1, ys, hv⟩ := hns x hx
          exact ⟨ys, .of (by rw [upd_ne (ne_of_none hv ht)]; exact hv)⟩
theorem sum_le : ∀ {ss : List Int}, (∀ s ∈ ss, s = 1 ∨ s = 2) → ss.sum ≤ 2 * ss.length
  | [], _ => Int.le_refl _
  | a :: r, h => by
    have h1 := h a List.mem_cons_self
    have h2 := sum_le (ss := r) fun s hs => h s (List.mem_cons_of_mem _ hs)
    rw [List.sum_cons, List.length_cons]
    omega
theorem len_le {st e : Int} {ss : List Int} (h : Shp st e ss) : len st e ss ≤ 27 := by
  have := h.s1; have := h.e1; have := sum_le h.two; have := h.few
  unfold len; omega
theorem small_log {m : Int} (h : m.natAbs < 1024) : m.natAbs.log2 < 9000 := by
  have h1 : m.natAbs.log2 < 10 := PySem.Flt.log2_lt_of (by decide) h
  omega
theorem erase_map : ∀ (l : List Int) (j : Nat), (l.map V.int).eraseIdx j = (l.eraseIdx j).map V.int
  | [], _ => rfl
  | _ :: _, 0 => rfl
  | a :: r, j + 1 => by
    show V.int a :: (r.map V.int).eraseIdx j = V.int a :: (r.eraseIdx j).map V.int
    rw [erase_map r j]
def sp_law (K : PySem.W.Frag) : Sp := fun vs H Q _ => ∃ (a : Addr) (ns : List Int), vs = [.ref a] ∧ SqL K H a (ns.map V.int) ∧ ns.length ≤ 63 ∧ ∀ H', Q (.bl true) H'
abbrev spLaw := sp_law
theorem count_set : ∀ {ss : List Int} {j : Nat}, ss[j]? = some 2 → (ss.set j 1).count 2 + 1 = ss.count 2
  | [], j, h => by simp at h
  | a :: r, 0, h => by
    have e : a = 2 := Option.some.inj h
    subst e
    show (1 :: r).count 2 + 1 = (2 :: r).count 2
    rw [List.count_cons_self, List.count_cons_of_ne (by decide)]
  | a :: r, j + 1, h => by
    have ih := count_set (ss := r) (j := j) h
    show (a :: r.set j 1).count 2 + 1 = (a :: r).count 2
    rw [List.count_cons, List.count_cons]
    omega
/-- a part that may be one less -/
def Part (st e : Int) (ss : List Int) (part : Int) : Prop := (∃ j : Nat, part = j ∧ ss[j]? = some 2) ∨ (part = -1 ∧ st = 1) ∨ (part = -2 ∧ e = 1)
theorem part_less {st e : Int} {ss : List Int} {part : Int} (h : Part st e ss part) :
    len (lst st part) (lend e part) (lss ss part) = len st e ss - 1 ∧ free (lst st part) (lend e part) (lss ss part) = free st e ss - 1 := by
  unfold len free lst lend lss
  rcases h with ⟨j, rfl, h⟩ | ⟨rfl, rfl⟩ | ⟨rfl, rfl⟩
  · rw [if_neg (show ¬ (j : Int) = -1 by omega), if_neg (show ¬ (j : Int) = -2 by omega), if_pos (show 0 ≤ (j : Int) by omega), Int.toNat_natCast]
    have h1 := sum_set (y := 1) h
    have h2 := count_set h
    omega
  · rw [if_pos rfl, if_neg (by omega), if_neg (by omega)]
    omega
  · rw [if_neg (by omega), if_pos rfl, if_neg (by omega)]
    omega
theorem part_shp {st e : Int} {ss : List Int} {part : Int} (h : Shp st e ss) : Shp (lst st part) (lend e part) (lss ss part) := by
  obtain ⟨h1, h2, h3, h4, h5, h6⟩ := h
  refine ⟨?_, ?_, ?_, ?_, ?_, ?_⟩
  · unfold lst; split <;> omega
  · unfold lst; split <;> omega
  · unfold lend; split <;> omega
  · unfold lend; split <;> omega
  · unfold lss
    split
    · intro s hs
      rcases List.mem_or_eq_of_mem_set hs with h | h
      · exact h5 s h
      · exact .inl h
    · exact h5
  · unfold lss
    split
    · rw [List.length_set]; exact h6
    · exact h6
theorem part_sum {st e : Int} {ss : List Int} {part n : Int} (hS : Shp st e ss) (h : Part st e ss part) : many st e ss n = many st e ss (n - 1) + many (lst st part) (lend e part) (lss ss part) (n - 1) := by
  obtain ⟨h1, h2⟩ := part_less h
  have h3 := free_nn (part_shp (part := part) hS)
  unfold many
  rw [h1, h2, pf_pascal (s := n - len st e ss) (f := free st e ss) (by omega), show n - 1 - (len st e ss - 1) = n - len st e ss by omega, show n - 1 - len st e ss = n - len st e ss - 1 by omega]
theorem part_ix {st e : Int} {ss : List Int} {part : Int} (h : Part st e ss part) : part < 0 ∨ part < ss.length := by
  rcases h with ⟨j, rfl, h⟩ | ⟨rfl, rfl⟩ | ⟨rfl, rfl⟩
  · have := (List.getElem?_eq_some_iff.mp h).1
    omega
  · omega
  · omega
theorem ok_law (T : Tx K mg) : FnOk P w K mg base CX0 3 T.f_law T.d_law ["script"] (sp_law K) := by
  refine T.F_law.ok sc_law (fun vs H Q E h => ?_) (fun cdv A outer s H vs Q E hr h => ?_)
  · obtain ⟨a, ns, rfl, _⟩ := h
    rfl
  · obtain ⟨a, ns, rfl, hS, hl, k⟩ := h
    refine ⟨_,
    (pss_cons
      (ps_for PassesOwn.never rfl (pi_list (pe_op op_cat (pe_lst (pa_cons pe_int pa_nil)) (pe_slice sl_list (pv 0) po_none (po_some pe_int)))) (pg_name (i := 1) sc_law.nd rfl (.inl rfl))
        (pss_cons
          (ps_set (i := 2) sc_law.nd rfl (.inl rfl) (pe_call (ok_law_spring T) (hr.mono (by decide)) (by rfl) T.g_law_spring T.F_law_spring.kp T.b_law_spring .nil pass0 (pa_cons (pv 1) pa_nil)))
        (pss_cons
          (ps_set (i := 3) sc_law.nd rfl (.inr rfl) (pe_call (ok_law_shape T) hr (by rfl) T.g_law_shape T.F_law_shape.kp T.b_law_shape .nil pass0 (pa_cons (pv 2) pa_nil)))
        (pss_cons
          (ps_setLc (i := 4) (own := [("k", 10)]) (g := gName 10) rfl sc_law.nd rfl rfl (sw_true rfl rfl rfl (by decide +kernel)) (pi_range1 (by rfl) T.m_range (pa_cons (pe_callB call_len_seq (by rfl) T.m_len (by decide +kernel) (pa_cons (pe_ix ix_tup (pv 3) pe_int (fun _ _ => rfl)) pa_nil)) pa_nil)) (blkOk_by (N := ["script", "cell", "spring", "shape", "parts", "length", "way", "days", "now", "before", "k", "part"]) (sc := defScope s_law) (own := [("k", 10)]) (by decide +kernel)) (fun _ _ _ _ _ => (pg_name (i := 10) sc_law.nd rfl (.inl rfl))) (fun _ _ _ _ _ => (pts_one (pt_cmpR op_eq (pe_ix (r := rIxL K) ix_list (pe_ix (r := rIxT K) ix_tup (pv 3) pe_int (fun _ _ => rfl)) (pv 10) (fun _ _ => rfl)) pe_int (nomark _)))) (fun _ _ _ _ _ => (pv 10)))
        (C8.pss_cut
          (ps_if (pt_cmpR op_eq (pe_ix ix_tup (pv 3) pe_int (fun _ _ => rfl)) pe_int (nomark _))
            (pss_one
              (ps_expr (pe_bm PySem.F.plainAttrs_list PySem.F.slot_list_append PySem.F.type_list_append mt_append (pv 4) (pa_cons (pe_un un_neg pe_int) pa_nil))))
            pss_nil)
        (C8.pss_cut
          (ps_if (pt_cmpR op_eq (pe_ix ix_tup (pv 3) pe_int (fun _ _ => rfl)) pe_int (nomark _))
            (pss_one
              (ps_expr (pe_bm PySem.F.plainAttrs_list PySem.F.slot_list_append PySem.F.type_list_append mt_append (pv 4) (pa_cons (pe_un un_neg pe_int) pa_nil))))
            pss_nil)
        (pss_cons
          (ps_set (i := 5) sc_law.nd rfl (.inl rfl) (pe_op op_add (pe_op op_add (pe_op op_add pe_int (pe_ix ix_tup (pv 3) pe_int (fun _ _ => rfl))) (pe_callB (cr_sum rfl) (by rfl) T.m_sum (by decide +kernel) (pa_cons (pe_ix ix_tup (pv 3) pe_int (fun _ _ => rfl)) pa_nil))) (pe_ix ix_tup (pv 3) pe_int (fun _ _ => rfl))))
        (pss_cons
          (ps_set (i := 6) sc_law.nd rfl (.inl rfl) (pe_call (ok_law_draw T) (hr.mono (by decide)) (by rfl) T.g_law_draw T.F_law_draw.kp T.b_law_draw .nil pass0 (pa_cons (pv 2) (pa_cons pe_int pa_nil))))
        (pss_cons
          (ps_set (i := 7) sc_law.nd rfl (.inl rfl) (pe_op op_add (pv 5) (pe_call (ok_law_draw T) (hr.mono (by decide)) (by rfl) T.g_law_draw T.F_law_draw.kp T.b_law_draw .nil pass0 (pa_cons (pv 2) (pa_cons pe_int pa_nil)))))
        (C8.pss_cut
          (ps_if (pt_cmpR op_gt (pv 6) pe_int (nomark _))
            (pss_one
              (ps_set (i := 7) sc_law.nd rfl (.inl rfl) (pe_ix ix_list (pe_lst (pa_cons (pe_op op_sub pe_int (pv 7)) (pa_cons (pe_call (ok_law_draw T) (hr.mono (by decide)) (by rfl) T.g_law_draw T.F_law_draw.kp T.b_law_draw .nil pass0 (pa_cons (pv 2) (pa_cons (pe_op op_pow pe_int pe_int) pa_nil))) pa_nil))) (pe_op op_sub (pv 6) pe_int) (fun _ _ => rfl))))
            pss_nil)
        (pss_cons
          (ps_set (i := 8) sc_law.nd rfl (.inl rfl) (pe_call (ok_plans_with T) hr (by rfl) T.g_plans_with T.F_plans_with.kp T.b_plans_with .nil pass0 (pa_cons (pv 3) (pa_cons (pv 7) pa_nil))))
        (pss_cons
          (ps_set (i := 9) sc_law.nd rfl (.inl rfl) (pe_call (ok_plans_with T) hr (by rfl) T.g_plans_with T.F_plans_with.kp T.b_plans_with .nil pass0 (pa_cons (pv 3) (pa_cons (pe_op op_sub (pv 7) pe_int) pa_nil))))
        (pss_cons
          (ps_if (PW.pt (pw_or (pt_not (pt_val (pe_call (ok_law_is_integer T) (hr.mono (by decide)) (by rfl) T.g_law_is_integer T.F_law_is_integer.kp T.b_law_is_integer .nil pass0 (pa_cons (pv 8) pa_nil)))) (pw_or (pt_not (pt_val (pe_call (ok_law_is_integer T) (hr.mono (by decide)) (by rfl) T.g_law_is_integer T.F_law_is_integer.kp T.b_law_is_integer .nil pass0 (pa_cons (pv 9) pa_nil)))) (pw_or1 (pt_cmpR op_ne (pe_call (ok_plans_with T) hr (by rfl) T.g_plans_with T.F_plans_with.kp T.b_plans_with .nil pass0 (pa_cons (pv 3) (pa_cons (pv 5) pa_nil))) pe_int (nomark _))))))
            (pss_one
              (ps_ret pe_bl))
            pss_nil)
        (pss_one
          (ps_for PassesOwn.never rfl (pi_range1 (by rfl) T.m_range (pa_cons (pe_callB (call_min2 rfl) (by rfl) T.m_min (by decide +kernel) (pa_cons pe_int (pa_cons (pe_callB call_len_seq (by rfl) T.m_len (by decide +kernel) (pa_cons (pv 4) pa_nil)) pa_nil))) pa_nil)) (pg_name (i := 10) sc_law.nd rfl (.inl rfl))
            (pss_cons
              (ps_set (i := 11) sc_law.nd rfl (.inl rfl) (pe_bm PySem.F.plainAttrs_list PySem.F.slot_list_pop PySem.F.type_list_pop mt_popAt (pv 4) (pa_cons (pe_call (ok_law_draw T) (hr.mono (by decide)) (by rfl) T.g_law_draw T.F_law_draw.kp T.b_law_draw .nil pass0 (pa_cons (pv 2) (pa_cons (pe_callB call_len_seq (by rfl) T.m_len (by decide +kernel) (pa_cons (pv 4) pa_nil)) pa_nil))) pa_nil)))
            (pss_one
              (ps_if (pt_cmpR op_ne (pv 8) (pe_op op_add (pv 9) (pe_call (ok_plans_with T) hr (by rfl) T.g_plans_with T.F_plans_with.kp T.b_plans_with .nil pass0 (pa_cons (pe_call (ok_law_less T) (hr.mono (by decide)) (by rfl) T.g_law_less T.F_law_less.kp T.b_law_less .nil pass0 (pa_cons (pv 3) (pa_cons (pv 11) pa_nil))) (pa_cons (pe_op op_sub (pv 7) pe_int) pa_nil)))) (nomark _))
                (pss_one
                  (ps_ret pe_bl))
                pss_nil))))))))))))))))))
    (pss_one
      (ps_ret pe_bl))), ?_⟩
    refine ⟨(by show 1 ≤ sizeLine; decide), fun l hl0 => ⟨_, rfl, _, rfl, a, _, rfl, (same_upd hl0).seq hS, fun b hb => ⟨l, b, [V.int 0], _, rfl, rfl, ?_, upd_same, ?_, fun A hA => ⟨_, rfl, ⟨_, .of upd_same⟩,
      for_list (xs := [V.int 0] ++ cutV (ns.map V.int) none (some 10)) (fun _ σ H' => H' A = some (.lst ([V.int 0] ++ cutV (ns.map V.int) none (some 10))) ∧ ∃ x1 x2 x3 x4 x5 x6 x7 x8 x9 x10 x11, σ = [some (.ref a), x1, x2, x3, x4, x5, x6, x7, x8, x9, x10, x11]) ?_ ?_ ?_ ?_⟩⟩⟩⟩
    · rw [upd_ne (ne_of_none upd_same hb), upd_same]
    · have h := cutV_length (ns.map V.int) none (some 10)
      rw [List.length_map] at h
      exact Nat.le_of_lt (small1000 (n := 1 + _) (by omega))
    · exact ⟨upd_same, none, none, none, none, none, none, none, none, none, none, none, rfl⟩
    · rintro i σ H' _ ⟨eA, _⟩
      exact .of eA
    · rintro i x σ H1 hi ⟨eA, x1, x2, x3, x4, x5, x6, x7, x8, x9, x10, x11, rfl⟩
      obtain ⟨c, rfl⟩ : ∃ c, x = .int c := by
        rcases List.mem_append.mp (List.mem_of_getElem? hi) with h | h
        · exact ⟨0, List.mem_singleton.mp h⟩
        · obtain ⟨c, _, rfl⟩ := List.mem_map.mp (List.mem_of_mem_drop (List.mem_of_mem_take h))
          exact ⟨c, rfl⟩
      generalize [V.int 0] ++ cutV (ns.map V.int) none (some 10) = xs at *
      -- spring, shape
      refine ⟨_, rfl, c, rfl, fun p z hp hz => ⟨_, rfl, p, z, rfl, upd_same, hz, fun t st e gs ss y H3 ht kp ey y0 hP hS => ?_⟩⟩
      have Ap : A ≠ p := ne_of_none eA hp
      have eA3 : H3 A = some (.lst xs) := kp _ _ (by rw [upd_ne Ap]; exact eA) Ap
      clear kp
      have hPP := hP
      obtain ⟨g, q, hT, hg, hq, hgs, hgl⟩ := hPP H3 fun _ _ h _ => h
      -- parts
      refine ⟨_, rfl, t, _, _, _, rfl, rfl, hT, atI_nat (j := 2) rfl, q, _, rfl, .inl hq, _, rfl, ?_, ?_, fun D hD => ?_⟩
      · rw [List.length_map]; have := hS.few; omega
      · rw [List.length_map]; have := hS.few; omega
      have pD : p ≠ D := ne_of_none ey hD
      have AD : A ≠ D := ne_of_none eA3 hD
      refine lc_range (lo := 0) (n := _) (fun i H' => ∃ ps : List Int, (∀ r ∈ ps, Part st e ss r) ∧ ps.length ≤ i ∧ H' D = some (.lst (ps.map V.int)) ∧ Same H3 H') ?_ ?_ ?_
      · exact ⟨[], (fun _ h => absurd h List.not_mem_nil), Nat.le_refl _, upd_same, same_upd hD⟩
      · rintro j H' hj ⟨ps, hps, hpl, eD, sm⟩
        rw [List.length_map, Int.toNat_natCast] at hj
        have gj : (ss.map V.int)[j]? = some (V.int ss[j]) := by rw [List.getElem?_map, List.getElem?_eq_getElem hj]; rfl
        refine ⟨rfl, _, rfl, t, _, _, _, rfl, rfl, Same.tup sm hT, atI_nat (j := 2) rfl, _, rfl, q, _, _, _, rfl, rfl, sm.seq hq, at_of (j := j) (by omega) gj, rfl, _, rfl, ite2 (fun c => ?_) (fun c => ?_)⟩
        · have e2 : ss[j] = 2 := V.int.inj (of_decide_eq_true c)
          refine ⟨_, rfl, ps.map V.int, eD, ?_, ps ++ [0 + (j : Int)], ?_, ?_, ?_, ?_⟩
          · have := hS.few
            rw [List.length_map]; exact small1000 (by omega)
          · intro r hr
            rcases List.mem_append.mp hr with h | h
            · exact hps r h
            · have := List.mem_singleton.mp h
              exact .inl ⟨j, by omega, by rw [List.getElem?_eq_getElem hj, e2]⟩
          · rw [List.length_append]; exact Nat.succ_le_succ hpl
          · rw [upd_same, List.map_append]; rfl
          · intro b o e
            rw [upd_ne (ne_of_none e hD)]
            exact sm b o e
        · exact ⟨ps, hps, Nat.le_succ_of_le hpl, eD, sm⟩
      · rintro H' ⟨ps, hps, hpl, eD, sm⟩
        rw [List.length_map, Int.toNat_natCast] at hpl
        have few := hS.few
        -- if shape[0] == 1, if shape[3] == 1
        refine ⟨fun σ H' => ∃ ps : List Int, (∀ r ∈ ps, Part st e ss r) ∧ ps.length ≤ 13 ∧ H' D = some (.lst (ps.map V.int)) ∧ Same H3 H' ∧ σ = [some (.ref a), some (.int c), some (.ref p), some (.ref t), some (.ref D), x5, x6, x7, x8, x9, x10, x11],
          ⟨_, rfl, t, _, _, _, rfl, rfl, Same.tup sm hT, atI_nat (j := 0) rfl, rfl, _, rfl, ite2 (fun c1 => ?_) (fun c1 => ?_)⟩, ?_⟩
        · have e1 : st = 1 := V.int.inj (of_decide_eq_true c1)
          refine ⟨_, rfl, .inl ⟨rfl, _, .of eD⟩, _, rfl, D, _, _, rfl, rfl, eD, ?_, ps ++ [-1], ?_, ?_, ?_, ?_, rfl⟩
          · rw [List.length_map]; exact small1000 (by omega)
          · intro r hr
            rcases List.mem_append.mp hr with h | h
            · exact hps r h
            · have := List.mem_singleton.mp h
              exact .inr (.inl ⟨this, e1⟩)
          · rw [List.length_append]; show ps.length + 1 ≤ 13; omega
          · rw [upd_same, List.map_append]; rfl
          · intro b o e
            rw [upd_ne (ne_of_none e hD)]
            exact sm b o e
        · exact ⟨ps, hps, by omega, eD, sm, rfl⟩
        clear hps hpl eD sm
        clear ps H'
        rintro σ H' ⟨ps, hps, hpl, eD, sm, rfl⟩
        refine ⟨fun σ H' => ∃ ps : List Int, (∀ r ∈ ps, Part st e ss r) ∧ ps.length ≤ 14 ∧ H' D = some (.lst (ps.map V.int)) ∧ Same H3 H' ∧ σ = [some (.ref a), some (.int c), some (.ref p), some (.ref t), some (.ref D), x5, x6, x7, x8, x9, x10, x11],
          ⟨_, rfl, t, _, _, _, rfl, rfl, Same.tup sm hT, atI_nat (j := 3) rfl, rfl, _, rfl, ite2 (fun c1 => ?_) (fun c1 => ?_)⟩, ?_⟩
        · have e1 : e = 1 := V.int.inj (of_decide_eq_true c1)
          refine ⟨_, rfl, .inl ⟨rfl, _, .of eD⟩, _, rfl, D, _, _, rfl, rfl, eD, ?_, ps ++ [-2], ?_, ?_, ?_, ?_, rfl⟩
          · rw [List.length_map]; exact small1000 (by omega)
          · intro r hr
            rcases List.mem_append.mp hr with h | h
            · exact hps r h
            · have := List.mem_singleton.mp h
              exact .inr (.inr ⟨this, e1⟩)
          · rw [List.length_append]; show ps.length + 1 ≤ 14; omega
          · rw [upd_same, List.map_append]; rfl
          · intro b o e
            rw [upd_ne (ne_of_none e hD)]
            exact sm b o e
        · exact ⟨ps, hps, by omega, eD, sm, rfl⟩
        clear hps hpl eD sm
        clear ps H'
        rintro σ H' ⟨ps, hps, hpl, eD, sm, rfl⟩
        have hL := len_pos hS
        have hL2 := len_le hS
        -- length, way, days
        refine ⟨_, rfl, t, _, _, _, rfl, rfl, Same.tup sm hT, atI_nat (j := 0) rfl, _, _, rfl, rfl, _, rfl, t, _, _, _, rfl, rfl, Same.tup sm hT, atI_nat (j := 2) rfl, q, ss, rfl, sm.seq hq, _, _, rfl, rfl, _, rfl, t, _, _, _, rfl, rfl, Same.tup sm hT, atI_nat (j := 3) rfl, _, _, rfl, rfl, ?_⟩
        refine ⟨_, rfl, p, 3, y, rfl, sm _ _ ey, y0, by decide, by decide +kernel, fun w y1 w0 w1 y10 => ?_⟩
        refine ⟨_, rfl, _, rfl, p, 9, y1, rfl, upd_same, y10, by decide, by decide +kernel, fun d y2 d0 d1 y20 => ⟨_, _, rfl, rfl, ?_⟩⟩
        rw [upd_upd]
        refine ⟨fun σ H5 => ∃ n y, n < 2 ^ 100 ∧ 0 ≤ y ∧ σ = [some (.ref a), some (.int c), some (.ref p), some (.ref t), some (.ref D), some (.int (len st e ss)), some (.int w), some (.int n), x8, x9, x10, x11] ∧ H5 p = some (.lst [.int y]) ∧ H5 D = some (.lst (ps.map V.int)) ∧ Kp H3 H5 p,
          ⟨_, rfl, _, _, rfl, rfl, _, rfl, ite2 (fun c1 => ?_) (fun c1 => ?_)⟩, ?_⟩
        · have c2 : 0 < w := of_decide_eq_true c1
          refine ⟨_, rfl, _, _, rfl, rfl, _, rfl, _, _, rfl, rfl, ⟨by decide, by decide, by decide⟩, p, _, y2, rfl, upd_same, y20, by decide, by decide +kernel, fun d2 y3 d20 d21 y30 => ⟨(by show 2 ≤ sizeLine; decide), fun L hL0 => ?_⟩⟩
          rw [upd_upd] at hL0 ⊢
          have d22 : d2 < (10 : Int) ^ (29 : Int).toNat := d21
          rw [show (10 : Int) ^ (29 : Int).toNat = 100000000000000000000000000000 by decide] at d22
          have pL : p ≠ L := ne_of_none upd_same hL0
          rw [upd_ne pL.symm] at hL0
          refine ⟨_, rfl, _, _, rfl, rfl, L, _, _, V.int (if w = 1 then 3 - (len st e ss + d) else d2), rfl, rfl, .of upd_same, ?_, ?_⟩
          · by_cases h : w = 1
            · subst h; rfl
            · have : w = 2 := by omega
              subst this; rfl
          · refine ⟨_, y3, ?_, y30, rfl, ?_, ?_, ?_⟩
            · split <;> omega
            · rw [upd_ne pL, upd_same]
            · rw [upd_ne (ne_of_none eD hL0), upd_ne pD.symm]; exact eD
            · intro b o e nb
              rw [upd_ne (ne_of_none (sm b o e) hL0), upd_ne nb]
              exact sm b o e
        · refine ⟨_, y2, ?_, y20, rfl, upd_same, ?_, ?_⟩
          · show len st e ss + d < _
            omega
          · rw [upd_ne pD.symm]; exact eD
          · intro b o e nb
            rw [upd_ne nb]
            exact sm b o e
        clear eD sm y0 y10 y20 d0 d1
        rintro σ H5 ⟨n, y, hn, y0, rfl, ep, eD, kp⟩
        -- now, before
        have hP5 := hP H5 kp
        refine ⟨_, rfl, _, rfl, t, st, e, gs, ss, n, rfl, hP5, hS, hn, ?_⟩
        refine ⟨_, rfl, _, rfl, _, _, rfl, rfl, t, st, e, gs, ss, n - 1, rfl, hP5, hS, by omega, ?_⟩
        have one : many st e ss (len st e ss) = 1 := by
          unfold many
          rw [show len st e ss - len st e ss = 0 by omega]
          exact pf_one
        refine ⟨_, rfl, _, rfl, _, rfl, _, rfl, _, rfl, _, rfl, _, rfl, _, rfl, t, st, e, gs, ss, _, rfl, hP5, hS, by omega, rfl, _, rfl, ?_⟩
        refine iteNS (congrArg V.int one) ?_
        -- the parts
        have lt3 : ∀ m : Nat, m ≤ 14 → (if (m : Int) < 3 then (m : Int) else 3).toNat ≤ m ∧ -(2 ^ 62) ≤ (if (m : Int) < 3 then (m : Int) else 3) ∧ (if (m : Int) < 3 then (m : Int) else 3) < 2 ^ 62 := fun m hm => by split <;> omega
        obtain ⟨l1, l2, l3⟩ := lt3 (ps.map V.int).length (by rw [List.length_map]; exact hpl)
        have hml : (ps.map V.int).length = ps.length := List.length_map _
        refine ⟨_, rfl, D, _, rfl, .inl (.of eD), _, _, rfl, _, rfl, ?_, ?_, for_range (n := (if ((ps.map V.int).length : Int) < 3 then ((ps.map V.int).length : Int) else 3).toNat) (fun i σ H' => ∃ (y : Int) (rs : List Int) (x10 x11 : Option V),
          σ = [some (.ref a), some (.int c), some (.ref p), some (.ref t), some (.ref D), some (.int (len st e ss)), some (.int w), some (.int n), some (.int (many st e ss n)), some (.int (many st e ss (n - 1))), x10, x11] ∧
          (∀ r ∈ rs, Part st e ss r) ∧ rs.length + i = ps.length ∧ 0 ≤ y ∧ H' p = some (.lst [.int y]) ∧ H' D = some (.lst (rs.map V.int)) ∧ Kp H3 H' p) ?_ ?_ ?_⟩
        · exact l2
        · exact l3
        · exact ⟨y, ps, x10, x11, rfl, hps, rfl, y0, ep, eD, kp⟩
        · clear hP5 ep eD kp y0 hps
          rintro i σ H6 hi ⟨y, rs, x10, x11, rfl, hrs, hlen, y0, ep, eD, kp⟩
          have hr0 : 0 < rs.length := by omega
          refine ⟨_, rfl, .inl ⟨rfl, _, .of eD⟩, _, rfl, _, rfl, D, _, rfl, .inl (.of eD), p, _, y, rfl, ep, y0, ?_, ?_, fun d y2 d0 d1 y20 => ?_⟩
          · rw [List.length_map]; omega
          · rw [List.length_map]; exact small_log (by omega)
          rw [List.length_map] at d1
          obtain ⟨j, rfl⟩ := Int.eq_ofNat_of_zero_le d0
          have hj : j < rs.length := by omega
          have gj : (rs.map V.int)[j]? = some (V.int rs[j]) := by rw [List.getElem?_map, List.getElem?_eq_getElem hj]; rfl
          have hPart := hrs _ (List.getElem_mem hj)
          generalize rs[j] = r at gj hPart
          refine ⟨D, _, _, j, _, rfl, rfl, (by rw [upd_ne pD.symm]; exact eD), (by omega), (by omega), (ixN_seq (ixN_nat (by rw [List.length_map]; exact hj))).1, gj, ?_⟩
          have kp2 : Kp H3 (upd (upd H6 p (.lst [.int y2])) D (.lst ((rs.map V.int).eraseIdx j))) p := fun b o e nb => by
            rw [upd_ne (ne_of_none e hD), upd_ne nb]
            exact kp b o e nb
          have hP7 := hP _ kp2
          refine ⟨_, rfl, _, rfl, _, rfl, _, rfl, t, st, e, gs, ss, r, rfl, hP7, part_ix hPart, fun t' gs' H8 s8 hP8 => ?_⟩
          refine ⟨_, rfl, _, _, rfl, rfl, t', _, _, gs', _, _, rfl, hP8, part_shp hS, ?_, _, _, rfl, rfl, rfl, _, rfl, iteNS (congrArg V.int (part_sum hS hPart)) ?_⟩
          · show n - 1 < _
            omega
          · refine ⟨y2, rs.eraseIdx j, _, _, rfl, fun r hr => hrs r (List.mem_of_mem_eraseIdx hr), ?_, y20, ?_, ?_, fun b o e nb => s8 _ _ (kp2 b o e nb)⟩
            · rw [List.length_eraseIdx_of_lt hj]; omega
            · exact s8 _ _ (by rw [upd_ne pD, upd_same])
            · exact s8 _ _ (by rw [upd_same, erase_map])
        · rintro σ H6 ⟨y, rs, x10, x11, rfl, _, _, _, _, _, kp⟩
          exact ⟨kp _ _ eA3 Ap, _, _, _, _, _, _, _, _, _, _, _, rfl⟩
    · rintro σ H' _
      exact k _
end
theorem all_mk {l : PySem.W.OpenLaw} {w : World} {K : PySem.W.Frag} {h : Heap} {mg : Str → Option Value} {fa f_length_of f_freedom_of f_plans_with f_law_is_integer f_law_spring f_law_draw f_law_shape f_law_less f_law : Addr} (X : K.In h) (G : h.Ns mainGlobals mg) (hfa : mg "law" = some (.ref fa))
    {od_length_of an_length_of : Option Addr} {sl_length_of : Array (Option Value)} {oc_length_of kV_length_of dc_length_of pm_length_of cd_length_of ct_length_of : Value}
    {od_freedom_of an_freedom_of : Option Addr} {sl_freedom_of : Array (Option Value)} {oc_freedom_of kV_freedom_of dc_freedom_of pm_freedom_of cd_freedom_of ct_freedom_of : Value}
    {od_plans_with an_plans_with : Option Addr} {sl_plans_with : Array (Option Value)} {oc_plans_with kV_plans_with dc_plans_with pm_plans_with cd_plans_with ct_plans_with : Value}
    {od_law_is_integer an_law_is_integer : Option Addr} {sl_law_is_integer : Array (Option Value)} {oc_law_is_integer kV_law_is_integer dc_law_is_integer pm_law_is_integer cd_law_is_integer ct_law_is_integer : Value}
    {od_law_spring an_law_spring : Option Addr} {sl_law_spring : Array (Option Value)} {oc_law_spring kV_law_spring dc_law_spring pm_law_spring cd_law_spring ct_law_spring : Value}
    {od_law_draw an_law_draw : Option Addr} {sl_law_draw : Array (Option Value)} {oc_law_draw kV_law_draw dc_law_draw pm_law_draw cd_law_draw ct_law_draw : Value}
    {od_law_shape an_law_shape : Option Addr} {sl_law_shape : Array (Option Value)} {oc_law_shape kV_law_shape dc_law_shape pm_law_shape cd_law_shape ct_law_shape : Value}
    {od_law_less an_law_less : Option Addr} {sl_law_less : Array (Option Value)} {oc_law_less kV_law_less dc_law_less pm_law_less cd_law_less ct_law_less : Value}
    {od_law an_law : Option Addr} {sl_law : Array (Option Value)} {oc_law kV_law dc_law pm_law cd_law ct_law : Value}
    (a_length_of : PySem.W.nsIn K mainGlobals "length_of" = some (some (.ref f_length_of)))
    (l_length_of : K.lookup f_length_of = some ⟨oc_length_of, od_length_of, .func (PySem.W.fnOf "length_of" "length_of" (defArgs s_length_of) (defBody s_length_of) (defScope s_length_of) .none kV_length_of dc_length_of pm_length_of an_length_of cd_length_of ct_length_of), sl_length_of⟩)
    (c_length_of : PySem.W.codeIn K cd_length_of "length_of" = true)
    (k_length_of : PySem.W.keepIn K (.ref f_length_of) = true)
    (a_freedom_of : PySem.W.nsIn K mainGlobals "freedom_of" = some (some (.ref f_freedom_of)))
    (l_freedom_of : K.lookup f_freedom_of = some ⟨oc_freedom_of, od_freedom_of, .func (PySem.W.fnOf "freedom_of" "freedom_of" (defArgs s_freedom_of) (defBody s_freedom_of) (defScope s_freedom_of) .none kV_freedom_of dc_freedom_of pm_freedom_of an_freedom_of cd_freedom_of ct_freedom_of), sl_freedom_of⟩)
    (c_freedom_of : PySem.W.codeIn K cd_freedom_of "freedom_of" = true)
    (k_freedom_of : PySem.W.keepIn K (.ref f_freedom_of) = true)
    (a_plans_with : PySem.W.nsIn K mainGlobals "plans_with" = some (some (.ref f_plans_with)))
    (l_plans_with : K.lookup f_plans_with = some ⟨oc_plans_with, od_plans_with, .func (PySem.W.fnOf "plans_with" "plans_with" (defArgs s_plans_with) (defBody s_plans_with) (defScope s_plans_with) .none kV_plans_with dc_plans_with pm_plans_with an_plans_with cd_plans_with ct_plans_with), sl_plans_with⟩)
    (c_plans_with : PySem.W.codeIn K cd_plans_with "plans_with" = true)
    (k_plans_with : PySem.W.keepIn K (.ref f_plans_with) = true)
    (a_law_is_integer : PySem.W.nsIn K mainGlobals "_law_is_integer" = some (some (.ref f_law_is_integer)))
    (l_law_is_integer : K.lookup f_law_is_integer = some ⟨oc_law_is_integer, od_law_is_integer, .func (PySem.W.fnOf "_law_is_integer" "_law_is_integer" (defArgs s_law_is_integer) (defBody s_law_is_integer) (defScope s_law_is_integer) .none kV_law_is_integer dc_law_is_integer pm_law_is_integer an_law_is_integer cd_law_is_integer ct_law_is_integer), sl_law_is_integer⟩)
    (c_law_is_integer : PySem.W.codeIn K cd_law_is_integer "_law_is_integer" = true)
    (k_law_is_integer : PySem.W.keepIn K (.ref f_law_is_integer) = true)
    (a_law_spring : PySem.W.nsIn K mainGlobals "_law_spring" = some (some (.ref f_law_spring)))
    (l_law_spring : K.lookup f_law_spring = some ⟨oc_law_spring, od_law_spring, .func (PySem.W.fnOf "_law_spring" "_law_spring" (defArgs s_law_spring) (defBody s_law_spring) (defScope s_law_spring) .none kV_law_spring dc_law_spring pm_law_spring an_law_spring cd_law_spring ct_law_spring), sl_law_spring⟩)
    (c_law_spring : PySem.W.codeIn K cd_law_spring "_law_spring" = true)
    (k_law_spring : PySem.W.keepIn K (.ref f_law_spring) = true)
    (a_law_draw : PySem.W.nsIn K mainGlobals "_law_draw" = some (some (.ref f_law_draw)))
    (l_law_draw : K.lookup f_law_draw = some ⟨oc_law_draw, od_law_draw, .func (PySem.W.fnOf "_law_draw" "_law_draw" (defArgs s_law_draw) (defBody s_law_draw) (defScope s_law_draw) .none kV_law_draw dc_law_draw pm_law_draw an_law_draw cd_law_draw ct_law_draw), sl_law_draw⟩)
    (c_law_draw : PySem.W.codeIn K cd_law_draw "_law_draw" = true)
    (k_law_draw : PySem.W.keepIn K (.ref f_law_draw) = true)
    (a_law_shape : PySem.W.nsIn K mainGlobals "_law_shape" = some (some (.ref f_law_shape)))
    (l_law_shape : K.lookup f_law_shape = some ⟨oc_law_shape, od_law_shape, .func (PySem.W.fnOf "_law_shape" "_law_shape" (defArgs s_law_shape) (defBody s_law_shape) (defScope s_law_shape) .none kV_law_shape dc_law_shape pm_law_shape an_law_shape cd_law_shape ct_law_shape), sl_law_shape⟩)
    (c_law_shape : PySem.W.codeIn K cd_law_shape "_law_shape" = true)
    (k_law_shape : PySem.W.keepIn K (.ref f_law_shape) = true)
    (a_law_less : PySem.W.nsIn K mainGlobals "_law_less" = some (some (.ref f_law_less)))
    (l_law_less : K.lookup f_law_less = some ⟨oc_law_less, od_law_less, .func (PySem.W.fnOf "_law_less" "_law_less" (defArgs s_law_less) (defBody s_law_less) (defScope s_law_less) .none kV_law_less dc_law_less pm_law_less an_law_less cd_law_less ct_law_less), sl_law_less⟩)
    (c_law_less : PySem.W.codeIn K cd_law_less "_law_less" = true)
    (k_law_less : PySem.W.keepIn K (.ref f_law_less) = true)
    (a_law : PySem.W.nsIn K mainGlobals "law" = some (some (.ref f_law)))
    (l_law : K.lookup f_law = some ⟨oc_law, od_law, .func (PySem.W.fnOf "law" "law" (defArgs s_law) (defBody s_law) (defScope s_law) .none kV_law dc_law pm_law an_law cd_law ct_law), sl_law⟩)
    (c_law : PySem.W.codeIn K cd_law "law" = true)
    (k_law : PySem.W.keepIn K (.ref f_law) = true)
    (z_bool : PySem.W.nsIn K mainGlobals "bool" = some none)
    (z_int : PySem.W.nsIn K mainGlobals "int" = some none)
    (z_isinstance : PySem.W.nsIn K mainGlobals "isinstance" = some none)
    (z_len : PySem.W.nsIn K mainGlobals "len" = some none)
    (z_list : PySem.W.nsIn K mainGlobals "list" = some none)
    (z_min : PySem.W.nsIn K mainGlobals "min" = some none)
    (z_range : PySem.W.nsIn K mainGlobals "range" = some none)
    (z_sum : PySem.W.nsIn K mainGlobals "sum" = some none)
    (y_comb : PySem.W.nsIn K mainGlobals "comb" = some (some (.builtin "math.comb")))
    : ∃ fd : FuncData, (∀ (s : Shared) (v : Value), BindsTo s fd ⟨[v], []⟩ [("script", v)]) ∧ ∀ base : Heap, K.In base → base.Ns mainGlobals mg → FnOk l.prog w K mg base CX0 3 fa fd ["script"] (spLaw K) := by
  have e := hfa.symm.trans (PySem.W.mg_of X G a_law)
  cases e
  have F_length_of := fun_mk (st := s_length_of) l_length_of c_length_of k_length_of
  have b_length_of := F_length_of.binds (ps := ["pattern"]) fun _ _ _ _ _ _ us hl => match us, hl with | [_], _ => rfl
  have F_freedom_of := fun_mk (st := s_freedom_of) l_freedom_of c_freedom_of k_freedom_of
  have b_freedom_of := F_freedom_of.binds (ps := ["pattern"]) fun _ _ _ _ _ _ us hl => match us, hl with | [_], _ => rfl
  have F_plans_with := fun_mk (st := s_plans_with) l_plans_with c_plans_with k_plans_with
  have b_plans_with := F_plans_with.binds (ps := ["pattern", "n"]) fun _ _ _ _ _ _ us hl => match us, hl with | [_, _], _ => rfl
  have F_law_is_integer := fun_mk (st := s_law_is_integer) l_law_is_integer c_law_is_integer k_law_is_integer
  have b_law_is_integer := F_law_is_integer.binds (ps := ["found"]) fun _ _ _ _ _ _ us hl => match us, hl with | [_], _ => rfl
  have F_law_spring := fun_mk (st := s_law_spring) l_law_spring c_law_spring k_law_spring
  have b_law_spring := F_law_spring.binds (ps := ["cell"]) fun _ _ _ _ _ _ us hl => match us, hl with | [_], _ => rfl
  have F_law_draw := fun_mk (st := s_law_draw) l_law_draw c_law_draw k_law_draw
  have b_law_draw := F_law_draw.binds (ps := ["spring", "many"]) fun _ _ _ _ _ _ us hl => match us, hl with | [_, _], _ => rfl
  have F_law_shape := fun_mk (st := s_law_shape) l_law_shape c_law_shape k_law_shape
  have b_law_shape := F_law_shape.binds (ps := ["spring"]) fun _ _ _ _ _ _ us hl => match us, hl with | [_], _ => rfl
  have F_law_less := fun_mk (st := s_law_less) l_law_less c_law_less k_law_less
  have b_law_less := F_law_less.binds (ps := ["shape", "part"]) fun _ _ _ _ _ _ us hl => match us, hl with | [_, _], _ => rfl
  have F_law := fun_mk (st := s_law) l_law c_law k_law
  have b_law := F_law.binds (ps := ["script"]) fun _ _ _ _ _ _ us hl => match us, hl with | [_], _ => rfl
  let T : Tx K mg := { f_length_of := f_length_of, d_length_of := _, F_length_of := F_length_of, b_length_of := b_length_of, g_length_of := PySem.W.mg_of X G a_length_of, f_freedom_of := f_freedom_of, d_freedom_of := _, F_freedom_of := F_freedom_of, b_freedom_of := b_freedom_of, g_freedom_of := PySem.W.mg_of X G a_freedom_of, f_plans_with := f_plans_with, d_plans_with := _, F_plans_with := F_plans_with, b_plans_with := b_plans_with, g_plans_with := PySem.W.mg_of X G a_plans_with, f_law_is_integer := f_law_is_integer, d_law_is_integer := _, F_law_is_integer := F_law_is_integer, b_law_is_integer := b_law_is_integer, g_law_is_integer := PySem.W.mg_of X G a_law_is_integer, f_law_spring := f_law_spring, d_law_spring := _, F_law_spring := F_law_spring, b_law_spring := b_law_spring, g_law_spring := PySem.W.mg_of X G a_law_spring, f_law_draw := f_law_draw, d_law_draw := _, F_law_draw := F_law_draw, b_law_draw := b_law_draw, g_law_draw := PySem.W.mg_of X G a_law_draw, f_law_shape := f_law_shape, d_law_shape := _, F_law_shape := F_law_shape, b_law_shape := b_law_shape, g_law_shape := PySem.W.mg_of X G a_law_shape, f_law_less := f_law_less, d_law_less := _, F_law_less := F_law_less, b_law_less := b_law_less, g_law_less := PySem.W.mg_of X G a_law_less, f_law := fa, d_law := _, F_law := F_law, b_law := b_law, g_law := PySem.W.mg_of X G a_law, m_bool := PySem.W.mg_none_of X G z_bool, m_int := PySem.W.mg_none_of X G z_int, m_isinstance := PySem.W.mg_none_of X G z_isinstance, m_len := PySem.W.mg_none_of X G z_len, m_list := PySem.W.mg_none_of X G z_list, m_min := PySem.W.mg_none_of X G z_min, m_range := PySem.W.mg_none_of X G z_range, m_sum := PySem.W.mg_none_of X G z_sum, m_comb := PySem.W.mg_of X G y_comb }
  exact ⟨PySem.W.fnOf "law" "law" (defArgs s_law) (defBody s_law) (defScope s_law) .none kV_law dc_law pm_law an_law cd_law ct_law, fun s v => .of_eq rfl, fun base _ _ => ok_law T⟩
end K17
open PySem PySem.W PyProof.Rows
set_option maxHeartbeats 0 in
theorem PySem.Challenge.cw_plandays_k17_one_day_more_holds : PySem.Challenge.rw_plandays_k17_one_day_more.Holds := by
  w_on; o_law; k_head; (case hw => w_witness2)
  k_fill
  refine L2.walk_of (l := PySem.Challenge.rw_plandays_k17_one_day_more) (n := 63) (k := 3) (x := "script") (CX := fun _ => L2.CX0) (sp := fun w => K17.spLaw _) rfl (by decide) rfl ⟨rfl, by decide, by decide⟩ (fun w h Y => PySem.W.kIn_of Y) ?F (fun _ _ a ns hl _ hS => ⟨a, ns, rfl, hS, hl, fun _ => rfl⟩) (fun _ _ _ _ _ h => h)
  case F =>
    intro w mg fa h KX G hmg
    refine' K17.all_mk KX G hmg ?a_length_of ?l_length_of ?c_length_of ?k_length_of ?a_freedom_of ?l_freedom_of ?c_freedom_of ?k_freedom_of ?a_plans_with ?l_plans_with ?c_plans_with ?k_plans_with ?a_law_is_integer ?l_law_is_integer ?c_law_is_integer ?k_law_is_integer ?a_law_spring ?l_law_spring ?c_law_spring ?k_law_spring ?a_law_draw ?l_law_draw ?c_law_draw ?k_law_draw ?a_law_shape ?l_law_shape ?c_law_shape ?k_law_shape ?a_law_less ?l_law_less ?c_law_less ?k_law_less ?a_law ?l_law ?c_law ?k_law ?z_bool ?z_int ?z_isinstance ?z_len ?z_list ?z_min ?z_range ?z_sum ?y_comb
    (case a_length_of => k_is)
    (case l_length_of => k_is)
    (case c_length_of => k_is)
    (case k_length_of => k_is)
    (case a_freedom_of => k_is)
    (case l_freedom_of => k_is)
    (case c_freedom_of => k_is)
    (case k_freedom_of => k_is)
    (case a_plans_with => k_is)
    (case l_plans_with => k_is)
    (case c_plans_with => k_is)
    (case k_plans_with => k_is)
    (case a_law_is_integer => k_is)
    (case l_law_is_integer => k_is)
    (case c_law_is_integer => k_is)
    (case k_law_is_integer => k_is)
    (case a_law_spring => k_is)
    (case l_law_spring => k_is)
    (case c_law_spring => k_is)
    (case k_law_spring => k_is)
    (case a_law_draw => k_is)
    (case l_law_draw => k_is)
    (case c_law_draw => k_is)
    (case k_law_draw => k_is)
    (case a_law_shape => k_is)
    (case l_law_shape => k_is)
    (case c_law_shape => k_is)
    (case k_law_shape => k_is)
    (case a_law_less => k_is)
    (case l_law_less => k_is)
    (case c_law_less => k_is)
    (case k_law_less => k_is)
    (case a_law => k_is)
    (case l_law => k_is)
    (case c_law => k_is)
    (case k_law => k_is)
    (case z_bool => k_is)
    (case z_int => k_is)
    (case z_isinstance => k_is)
    (case z_len => k_is)
    (case z_list => k_is)
    (case z_min => k_is)
    (case z_range => k_is)
    (case z_sum => k_is)
    (case y_comb => k_is)

