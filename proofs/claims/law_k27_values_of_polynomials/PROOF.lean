import PyProof.Rows.All
import Wide.All
import OpenK.AllK
import Wide.FinOn
import HandS.ForMost
import HandS.Wide
import HandS.Gcd
import HandS.SetFor
import HandS.IsInst
import HandS.Codes
import HandS.Defaults
import KE.KMathGC
import Flt.Len
import PySem.Challenge.RW_plandays_k27_values_of_polynomials
set_option Elab.async false
set_option linter.all false
set_option maxRecDepth 100000
namespace K27
open PySem
/-! ### binomials of any integer, and polynomials in them -/
def fct : Nat → Int
  | 0 => 1
  | j + 1 => ((j : Int) + 1) * fct j
def fl (n : Int) : Nat → Int
  | 0 => 1
  | j + 1 => fl n j * (n - j)
theorem fct_pos : ∀ j, 0 < fct j
  | 0 => by decide
  | j + 1 => by
    have := fct_pos j
    show 0 < ((j : Int) + 1) * fct j
    exact Int.mul_pos (by omega) this
theorem fl_head (n : Int) : ∀ j, fl (n + 1) (j + 1) = (n + 1) * fl n j
  | 0 => by show 1 * (n + 1 - ((0 : Nat) : Int)) = (n + 1) * 1; omega
  | j + 1 => by
    have ih := fl_head n j
    show fl (n + 1) (j + 1) * (n + 1 - ((j + 1 : Nat) : Int)) = (n + 1) * (fl n j * (n - j))
    rw [ih, show n + 1 - ((j + 1 : Nat) : Int) = n - (j : Int) by omega, Int.mul_assoc]
theorem fl_step (n : Int) (j : Nat) : fl (n + 1) (j + 1) = fl n (j + 1) + ((j : Int) + 1) * fl n j := by
  rw [fl_head]
  show (n + 1) * fl n j = fl n j * (n - j) + ((j : Int) + 1) * fl n j
  grind
theorem fct_dvd : ∀ (j : Nat) (n : Int), fct j ∣ fl n j
  | 0, n => Int.one_dvd _
  | j + 1, n => by
    have ih := fct_dvd j
    have h0 : fl 0 (j + 1) = 0 := by
      have := fl_head (-1) j
      rw [show (-1 : Int) + 1 = 0 by omega, Int.zero_mul] at this
      exact this
    have st : ∀ m : Int, fct (j + 1) ∣ ((j : Int) + 1) * fl m j := fun m => Int.mul_dvd_mul_left _ (ih m)
    have up : ∀ m : Nat, fct (j + 1) ∣ fl (m : Int) (j + 1) := by
      intro m
      induction m with
      | zero => rw [show ((0 : Nat) : Int) = 0 from rfl, h0]; exact Int.dvd_zero _
      | succ m im =>
        rw [show ((m + 1 : Nat) : Int) = (m : Int) + 1 by omega, fl_step]
        exact Int.dvd_add im (st _)
    have dn : ∀ m : Nat, fct (j + 1) ∣ fl (-(m : Int)) (j + 1) := by
      intro m
      induction m with
      | zero => rw [show -((0 : Nat) : Int) = 0 from rfl, h0]; exact Int.dvd_zero _
      | succ m im =>
        have h := fl_step (-((m + 1 : Nat) : Int)) j
        rw [show -((m + 1 : Nat) : Int) + 1 = -(m : Int) by omega] at h
        have e : fl (-((m + 1 : Nat) : Int)) (j + 1) = fl (-(m : Int)) (j + 1) - ((j : Int) + 1) * fl (-((m + 1 : Nat) : Int)) j := by omega
        rw [e]
        exact Int.dvd_sub im (st _)
    rcases Int.le_total 0 n with h | h
    · obtain ⟨m, rfl⟩ := Int.eq_ofNat_of_zero_le h
      exact up m
    · obtain ⟨m, hm⟩ := Int.eq_ofNat_of_zero_le (show 0 ≤ -n by omega)
      obtain rfl : n = -(m : Int) := by omega
      exact dn m
/-- the binomial of n over j -/
def W (n : Int) (j : Nat) : Int := fl n j / fct j
theorem W_mul (n : Int) (j : Nat) : W n j * fct j = fl n j := Int.ediv_mul_cancel (fct_dvd j n)
theorem fct_inj {a b : Int} {j : Nat} (h : a * fct j = b * fct j) : a = b := Int.eq_of_mul_eq_mul_right (by have := fct_pos j; omega) h
theorem W_r (n : Int) : W n 0 = 1 := rfl
theorem W_next (n : Int) (j : Nat) : W n (j + 1) * ((j : Int) + 1) = W n j * (n - j) := by
  refine fct_inj (j := j) ?_
  have h1 := W_mul n (j + 1)
  have h2 := W_mul n j
  have h3 : fl n (j + 1) = fl n j * (n - j) := rfl
  have h4 : fct (j + 1) = ((j : Int) + 1) * fct j := rfl
  rw [h4, h3, ← h2] at h1
  rw [Int.mul_assoc, h1]
  grind
theorem W_div (n : Int) (j : Nat) : W n j * (n - j) / ((j : Int) + 1) = W n (j + 1) := by
  rw [← W_next]
  exact Int.mul_ediv_cancel _ (by omega)
theorem W_pascal (n : Int) (j : Nat) : W (n + 1) (j + 1) = W n (j + 1) + W n j := by
  refine fct_inj (j := j + 1) ?_
  have h1 := W_mul (n + 1) (j + 1)
  have h2 := W_mul n (j + 1)
  have h3 := W_mul n j
  have h4 : fct (j + 1) = ((j : Int) + 1) * fct j := rfl
  have h5 := fl_step n j
  rw [h1, h5, ← h2, ← h3, Int.add_mul, h4]
  grind
theorem W_nil (j : Nat) : W 0 (j + 1) = 0 := by
  have h0 : fl 0 (j + 1) = 0 := by
    have := fl_head (-1) j
    rw [show (-1 : Int) + 1 = 0 by omega, Int.zero_mul] at this
    exact this
  unfold W
  rw [h0, Int.zero_ediv]
theorem fl_size {n : Int} {b : Nat} : ∀ j : Nat, n.natAbs + j ≤ 2 ^ b → (fl n j).natAbs ≤ 2 ^ (b * j)
  | 0, _ => by show (1 : Int).natAbs ≤ 2 ^ (b * 0); rw [Nat.mul_zero]; decide
  | j + 1, h => by
    have ih := fl_size (n := n) (b := b) j (by omega)
    show (fl n j * (n - j)).natAbs ≤ _
    rw [Int.natAbs_mul, show b * (j + 1) = b * j + b from rfl, Nat.pow_add]
    exact Nat.mul_le_mul ih (by omega)
theorem W_size {n : Int} {b j : Nat} (h : n.natAbs + j ≤ 2 ^ b) : (W n j).natAbs ≤ 2 ^ (b * j) := by
  have h1 := W_mul n j
  have h2 := fct_pos j
  have h3 := fl_size (n := n) (b := b) j h
  rw [← h1, Int.natAbs_mul] at h3
  have : (W n j).natAbs * 1 ≤ (W n j).natAbs * (fct j).natAbs := Nat.mul_le_mul_left _ (by omega)
  omega
/-- the value of a polynomial's rest, from the index j on -/
def pols (n : Int) : Nat → List Int → Int
  | _, [] => 0
  | j, a :: r => a * W n j + pols n (j + 1) r
def pol (r : List Int) (n : Int) : Int := pols n 0 r
theorem pols_snoc (n a : Int) : ∀ (j : Nat) (l : List Int), pols n j (l ++ [a]) = pols n j l + a * W n (j + l.length)
  | j, [] => by show a * W n j + 0 = 0 + a * W n (j + 0); rw [Nat.add_zero]; omega
  | j, b :: r => by
    have ih := pols_snoc n a (j + 1) r
    show b * W n j + pols n (j + 1) (r ++ [a]) = b * W n j + pols n (j + 1) r + a * W n (j + (r.length + 1))
    rw [ih, show j + 1 + r.length = j + (r.length + 1) by omega]
    omega
theorem pol_take {n a : Int} {l : List Int} {i : Nat} (h : l[i]? = some a) : pol (l.take (i + 1)) n = pol (l.take i) n + a * W n i := by
  have hi := (List.getElem?_eq_some_iff.mp h).1
  unfold pol
  rw [List.take_add_one, h, show (some a).toList = [a] from rfl, pols_snoc, List.length_take, Nat.min_eq_left (by omega), Nat.zero_add]
theorem pols_step (n : Int) : ∀ (j : Nat) (r : List Int), pols (n + 1) (j + 1) r = pols n (j + 1) r + pols n j r
  | j, [] => rfl
  | j, a :: r => by
    have ih := pols_step n (j + 1) r
    show a * W (n + 1) (j + 1) + pols (n + 1) (j + 1 + 1) r = a * W n (j + 1) + pols n (j + 1 + 1) r + (a * W n j + pols n (j + 1) r)
    rw [ih, W_pascal, Int.mul_add]
    omega
/-- one day more: the polynomial without its first entry -/
theorem pol_step (n : Int) (r : List Int) : pol r (n + 1) - pol r n = pol (r.drop 1) n := by
  cases r with
  | nil => rfl
  | cons a r =>
    show a * W (n + 1) 0 + pols (n + 1) 1 r - (a * W n 0 + pols n 1 r) = pols n 0 r
    have h := pols_step n 0 r
    rw [Nat.zero_add] at h
    rw [h, W_r, W_r]
    omega
theorem pols_nil : ∀ (j : Nat) (r : List Int), pols 0 (j + 1) r = 0
  | _, [] => rfl
  | j, a :: r => by
    show a * W 0 (j + 1) + pols 0 (j + 1 + 1) r = 0
    rw [W_nil, pols_nil]
    omega
theorem pol_zero (r : List Int) : pol r 0 = (r.take 1).sum := by
  cases r with
  | nil => rfl
  | cons a r =>
    show a * W 0 0 + pols 0 (0 + 1) r = ([a] : List Int).sum
    rw [pols_nil, W_r]
    simp
end K27
namespace K27
open PySem PySem.Spec PyProof.Rows L2
theorem same_upd {H : Hp} {p : Addr} {o : HO} (h : H p = none) : Same H (upd H p o) := fun b x e => by
  rw [upd_ne (ne_of_none e h)]
  exact e
theorem Same.tup {K : PySem.W.Frag} {H H' : Hp} {a : Addr} {xs : List V} (e : Same H H') (h : SqT K H a xs) : SqT K H' a xs := by
  rcases h with (h | ⟨o, h⟩) | h
  · exact .inl (.inl (e _ _ h))
  · exact .inl (.inr ⟨o, e _ _ h⟩)
  · exact .inr h
theorem ixN_nat {n j : Nat} (hj : j < n) : ixN n (j : Int) = some j := by
  unfold ixN
  rw [if_pos (by omega), if_pos (by omega), Int.toNat_natCast]
theorem for_enum {K : PySem.W.Frag} {a : Addr} {xs : List V} {g : TG} {tb : TS} {D : Ends} {σ : L2.St} {H : Hp} (Pv : Nat → L2.St → Hp → Prop) (h0 : Pv 0 σ H) (hl : ∀ i σ H, i ≤ xs.length → Pv i σ H → SqL K H a xs)
    (hs : ∀ i x σ H T, xs[i]? = some x → Pv i σ H → H T = none → g (.ref T) σ (upd H T (.tup [.int (i : Nat), x])) fun σ2 H2 => tb { D with nx := Pv (i + 1), ct := Pv (i + 1), bk := D.nx } σ2 H2) (hd : ∀ σ H, Pv xs.length σ H → D.nx σ H) :
    ∃ W : Nat → Nat → L2.St → Hp → Prop, (∃ m, W 0 m σ H) ∧ ∀ i m σ H, W i m σ H →
      ((Ite K a).stop i H ∧ D.nx σ H) ∨ ((Ite K a).go i H ∧ ∃ N : L2.St → Hp → Prop, (∀ σ' H', N σ' H' → ∃ m', m' < m ∧ W (i + 1) m' σ' H') ∧ ∀ x H', (Ite K a).yld i H x H' → g x σ H' fun σ2 H2 => tb { D with nx := N, ct := N, bk := D.nx } σ2 H2) := by
  refine ⟨fun i m σ H => m = xs.length - i ∧ i ≤ xs.length ∧ Pv i σ H, ⟨_, rfl, Nat.zero_le _, h0⟩, ?_⟩
  rintro i m σ H ⟨rfl, hi, p⟩
  have q := hl i σ H hi p
  by_cases hlt : i < xs.length
  · refine .inr ⟨⟨xs, xs[i], q, List.getElem?_eq_getElem hlt⟩, Pv (i + 1), fun σ' H' p' => ⟨xs.length - (i + 1), by omega, rfl, hlt, p'⟩, fun v H' y => ?_⟩
    obtain ⟨T, x, e1, hT, e2, hx⟩ := y
    subst e1 e2
    exact hs i x σ H T (hx xs q) p hT
  · have e : i = xs.length := by omega
    subst e
    exact .inl ⟨⟨xs, q, Nat.le_refl _⟩, hd σ H p⟩
theorem cut_take (xs : List V) (i : Nat) : cutV xs none (some (i : Int)) = xs.take i := by
  unfold cutV
  rw [HT.sIx_none, show HT.sIx xs.length xs.length (some (i : Int)) = min i xs.length from HT.sIx_nat _ _ i, List.drop_zero, Nat.sub_zero]
  by_cases h : i ≤ xs.length
  · rw [Nat.min_eq_left h]
  · rw [Nat.min_eq_right (by omega), List.take_of_length_le (Nat.le_refl _), List.take_of_length_le (by omega)]
theorem cut_drop (xs : List V) (i : Nat) : cutV xs (some (i : Int)) none = xs.drop i := by
  unfold cutV
  rw [HT.sIx_none, show HT.sIx xs.length 0 (some (i : Int)) = min i xs.length from HT.sIx_nat _ _ i]
  by_cases h : i ≤ xs.length
  · rw [Nat.min_eq_left h]
    exact List.take_of_length_le (by rw [List.length_drop]; exact Nat.le_refl _)
  · rw [Nat.min_eq_right (by omega), Nat.sub_self, List.take_zero, List.drop_eq_nil_of_le (by omega)]
theorem small_log {m : Int} (h : m.natAbs < 1024) : m.natAbs.log2 < 9000 := by
  have h1 : m.natAbs.log2 < 10 := PySem.Flt.log2_lt_of (by decide) h
  omega
theorem pe_callN0 {X : Cx} {CX : CXT} {k : Nat} {f : Addr} {fd : FuncData} {ps ks : List Str} {sp : Sp} {E : XK} {x : Str} {p pos : Pos} {kws : List Keyword} {tk : TA} {g : List Value → List Value → List Value} {gV : List V → List V → List V}
    (F : FnOk X.prog X.w X.K X.mg X.base CX k f fd ps sp) (hr : Room k X.A) (hg : Gl X x) (hm : X.mg x = some (.ref f)) (kp : PySem.W.keepIn X.K (.ref f) = true) (hb : KBn X.K fd ps 0 ks g gV) (hx : Passes CX X E) (hkw : PK X kws tk)
    (h1 : (backToKw pos (keywordEach kws X.env)).all (·.1.isSome) = true := by rfl) (h2 : (backToKw pos (keywordEach kws X.env)).filterMap (·.1) = ks := by rfl) (h3 : (x == ("__debug__" : Str)) = false := by decide)
    (h4 : ((backTo pos (starEach [] X.env)).any (·.1) || (backToKw pos (keywordEach kws X.env)).any (·.1.isNone)) = false := by rfl) :
    PE X (.Call (.Name x p) [] kws pos) (tCallN 0 ks.length sp gV E tNil tk) := by
  refine ⟨fun pins s σ H Q I h => wpAny_Call_Name_kw (ld_glob I hg hm ?_ h3)⟩
  refine PySem.W.callWith_KW0 (h₀ := X.base) I.ok.mod.kin kp h1 ?_ h4
  refine thn (hkw.run pos pins s σ H _ I h) fun ws s2 ⟨zs, H2, I2, rz, l1, l2, q2⟩ => ⟨I2.kIn, ?_⟩
  rw [h2]
  exact run_fnN (us := []) (vs := []) F hr hb hx I2 .nil rz rfl l2 q2
theorem dp_ints {K : PySem.W.Frag} {H : Hp} : ∀ {ns : List Int}, DpAll K H (ns.map V.int) (ns.map PyData.int)
  | [] => .nil
  | _ :: _ => .cons (.int _) dp_ints
theorem lay_ints : ∀ (ns : List Int), PyData.canLayAll0 (ns.map PyData.int) = true
  | [] => rfl
  | _ :: r => by
    show (true && PyData.canLayAll0 (r.map PyData.int)) = true
    rw [lay_ints r]; rfl
theorem depth_ints : ∀ (ns : List Int), PyData.depthAll (ns.map PyData.int) ≤ 1
  | [] => by simp [PyData.depthAll]
  | a :: r => by
    have := depth_ints r
    simp only [List.map_cons, PyData.depthAll, PyData.depth]
    omega
theorem list_ok (ns : List Int) : SeqAt.shaped (.list (ns.map PyData.int)) = true := by
  unfold SeqAt.shaped
  rw [Bool.and_eq_true]
  have h := depth_ints ns
  exact ⟨lay_ints ns, decide_eq_true (by simp only [PyData.depth]; omega)⟩
/-- the readings of list(..) and len(..), named -/
def topS (i : Nat) : Stmt := PySem.Challenge.pw_plandays_k27_values_of_polynomials.main.body.getD i (.Pass ⟨0, 0, 0, 0⟩)
abbrev s_value_at : Stmt := topS 1
theorem sc_value_at : FnScope ["poly", "n", "total", "ways", "j", "entry"] ["poly", "n"] (defScope s_value_at) := ⟨rfl, rfl, rfl, by decide +kernel, rfl, by decide +kernel, by decide +kernel⟩
abbrev s_law_is_integer : Stmt := topS 3
theorem sc_law_is_integer : FnScope ["found"] ["found"] (defScope s_law_is_integer) := ⟨rfl, rfl, rfl, by decide +kernel, rfl, by decide +kernel, by decide +kernel⟩
abbrev s_law_spring : Stmt := topS 4
theorem sc_law_spring : FnScope ["cell", "low", "mixed", "k"] ["cell"] (defScope s_law_spring) := ⟨rfl, rfl, rfl, by decide +kernel, rfl, by decide +kernel, by decide +kernel⟩
abbrev s_law_draw : Stmt := topS 5
theorem sc_law_draw : FnScope ["spring", "many", "drawn"] ["spring", "many"] (defScope s_law_draw) := ⟨rfl, rfl, rfl, by decide +kernel, rfl, by decide +kernel, by decide +kernel⟩
abbrev s_law_value : Stmt := topS 6
theorem sc_law_value : FnScope ["terms", "at", "total", "binomial", "k"] ["terms", "at"] (defScope s_law_value) := ⟨rfl, rfl, rfl, by decide +kernel, rfl, by decide +kernel, by decide +kernel⟩
abbrev s_law : Stmt := topS 7
theorem sc_law : FnScope ["script", "cell", "spring", "most", "long", "at", "ends", "row", "handed", "due", "found", "spot", "k"] ["script"] (defScope s_law) := ⟨rfl, rfl, rfl, by decide +kernel, rfl, by decide +kernel, by decide +kernel⟩
/-- what the top has written, as the walks ask it -/
structure Tx (K : PySem.W.Frag) (mg : Str → Option Value) where
  f_value_at : Addr
  d_value_at : FuncData
  F_value_at : Fun K "value_at" "value_at" s_value_at f_value_at d_value_at
  b_value_at : Binds K d_value_at ["poly", "n"] []
  g_value_at : mg "value_at" = some (.ref f_value_at)
  f_law_is_integer : Addr
  d_law_is_integer : FuncData
  F_law_is_integer : Fun K "_law_is_integer" "_law_is_integer" s_law_is_integer f_law_is_integer d_law_is_integer
  b_law_is_integer : Binds K d_law_is_integer ["found"] []
  g_law_is_integer : mg "_law_is_integer" = some (.ref f_law_is_integer)
  f_law_spring : Addr
  d_law_spring : FuncData
  F_law_spring : Fun K "_law_spring" "_law_spring" s_law_spring f_law_spring d_law_spring
  b_law_spring : Binds K d_law_spring ["cell"] []
  g_law_spring : mg "_law_spring" = some (.ref f_law_spring)
  f_law_draw : Addr
  d_law_draw : FuncData
  F_law_draw : Fun K "_law_draw" "_law_draw" s_law_draw f_law_draw d_law_draw
  b_law_draw : Binds K d_law_draw ["spring", "many"] []
  g_law_draw : mg "_law_draw" = some (.ref f_law_draw)
  f_law_value : Addr
  d_law_value : FuncData
  F_law_value : Fun K "_law_value" "_law_value" s_law_value f_law_value d_law_value
  b_law_value : Binds K d_law_value ["terms", "at"] []
  g_law_value : mg "_law_value" = some (.ref f_law_value)
  f_law : Addr
  d_law : FuncData
  F_law : Fun K "law" "law" s_law f_law d_law
  b_law : Binds K d_law ["script"] []
  g_law : mg "law" = some (.ref f_law)
  m_bool : mg "bool" = none
  m_enumerate : mg "enumerate" = none
  m_int : mg "int" = none
  m_isinstance : mg "isinstance" = none
  m_len : mg "len" = none
  m_list : mg "list" = none
  m_range : mg "range" = none
  m_sum : mg "sum" = none
section
variable {P : Program} {w : World} {K : PySem.W.Frag} {mg : Str → Option Value} {base : Heap}
def sp_int : Sp := fun vs H Q _ => ∃ i, vs = [.int i] ∧ Q (.bl true) H
theorem ok_law_is_integer (T : Tx K mg) : FnOk P w K mg base CX0 1 T.f_law_is_integer T.d_law_is_integer ["found"] sp_int := by
  refine T.F_law_is_integer.ok sc_law_is_integer (fun vs H Q E h => ?_) (fun cdv A outer s H vs Q E hr h => ?_)
  · obtain ⟨i, rfl, _⟩ := h
    rfl
  · obtain ⟨i, rfl, k⟩ := h
    refine ⟨_,
    (pss_one
      (ps_ret (pe_and (pe_callB call_isi (by rfl) T.m_isinstance (by decide +kernel) (pa_cons (pv 0) (pa_cons (pe_bltn (v := .ty "int") (by rfl) T.m_int (by decide +kernel) rfl) pa_nil))) (pe_one (pe_not (pe_callB call_isi (by rfl) T.m_isinstance (by decide +kernel) (pa_cons (pv 0) (pa_cons (pe_bltn (v := .ty "bool") (by rfl) T.m_bool (by decide +kernel) rfl) pa_nil)))))))), ?_⟩
    refine ⟨_, rfl, _, _, _, _, true, rfl, .ty "int", .base (.int i), kit_ty (by decide +kernel), _, rfl, iteT ?_⟩
    exact ⟨_, rfl, _, _, _, _, false, rfl, .ty "bool", .base (.int i), kit_ty (by decide +kernel), _, rfl, k⟩
def sp_spring : Sp := fun vs H Q _ => ∃ c, vs = [.int c] ∧ ∀ p z, H p = none → 0 ≤ z → Q (.ref p) (upd H p (.lst [.int z]))
theorem ok_law_spring (T : Tx K mg) : FnOk P w K mg base CX0 1 T.f_law_spring T.d_law_spring ["cell"] sp_spring := by
  refine T.F_law_spring.ok sc_law_spring (fun vs H Q E h => ?_) (fun cdv A outer s H vs Q E hr h => ?_)
  · obtain ⟨c, rfl, _⟩ := h
    rfl
  · obtain ⟨c, rfl, k⟩ := h
    refine ⟨_,
    (pss_cons
      (ps_if (pt_cmpR op_ge (pv 0) (pe_op op_pow pe_int pe_int) (nomark _))
        (pss_one
          (ps_ret (pe_lst (pa_cons (pe_op op_sub (pv 0) (pe_op op_pow pe_int pe_int)) pa_nil))))
        pss_nil)
    (pss_cons
      (ps_set (i := 1) sc_law_spring.nd rfl (.inl rfl) (pe_op op_mod (pe_callTy call_int1 (by rfl) T.m_int (by decide +kernel) (pa_cons (pv 0) pa_nil)) pe_int))
    (pss_cons
      (ps_set (i := 2) sc_law_spring.nd rfl (.inl rfl) pe_int)
    (pss_cons
      (ps_for PassesOwn.never rfl (pi_range1 (by rfl) T.m_range (pa_cons pe_int pa_nil)) (pg_name (i := 3) sc_law_spring.nd rfl (.inl rfl))
        (pss_cons
          (ps_set (i := 1) sc_law_spring.nd rfl (.inl rfl) (pe_op op_mod (pe_callTy call_int1 (by rfl) T.m_int (by decide +kernel) (pa_cons (pe_op op_add (pe_op op_add (pe_op op_add (pe_op op_mul (pv 1) (pv 1)) (pe_op op_mul (pe_op op_add pe_int (pe_op op_mul pe_int (pv 3))) (pv 1))) (pe_op op_mul pe_int (pv 3))) pe_int) pa_nil)) pe_int))
        (pss_one
          (ps_set (i := 2) sc_law_spring.nd rfl (.inl rfl) (pe_op op_add (pe_op op_mul (pv 2) (pe_op op_pow pe_int pe_int)) (pe_op op_fdiv (pv 1) pe_int))))))
    (pss_one
      (ps_ret (pe_lst (pa_cons (pv 2) pa_nil)))))))), ?_⟩
    refine ⟨_, rfl, _, _, rfl, rfl, ⟨by decide, by decide, by decide⟩, _, _, rfl, rfl, _, rfl, ite2 (fun c1 => ?_) (fun _ => ?_)⟩
    · have h1 : (10 : Int) ^ (18 : Int).toNat ≤ c := of_decide_eq_true c1
      refine ⟨_, rfl, _, _, rfl, rfl, ⟨by decide, by decide, by decide⟩, _, _, rfl, rfl, (by show 1 ≤ sizeLine; decide), fun p hp => k p _ hp ?_⟩
      omega
    · refine ⟨_, rfl, .inl ⟨_, rfl, _, _, rfl, rfl, (by show (0 : Int) < 999999999999999989; decide), ?_⟩⟩
      have l0 : 0 ≤ c % 999999999999999989 := Int.emod_nonneg _ (by decide)
      have l1 : c % 999999999999999989 < 999999999999999989 := Int.emod_lt_of_pos _ (by decide)
      refine ⟨10, rfl, by decide, by decide, for_range (n := 10) (fun _ σ H' => ∃ l m x, 0 ≤ l ∧ l < 1000000000000000000 ∧ 0 ≤ m ∧ H' = H ∧ σ = [some (.int c), some (.int l), some (.int m), x]) ?_ ?_ ?_⟩
      · exact ⟨_, 0, none, l0, by omega, by omega, rfl, rfl⟩
      · rintro i σ H' hi ⟨l, m, x, h1, h2, h3, rfl, rfl⟩
        have bl : -(2 ^ 64) < l ∧ l < 2 ^ 64 := by constructor <;> omega
        refine ⟨_, rfl, _, rfl, _, _, rfl, rfl, .inl bl, _, rfl, _, _, rfl, rfl, .inl ⟨by decide, by decide⟩, _, _, rfl, rfl, _, rfl, _, _, rfl, rfl, .inr bl, _, _, rfl, rfl, _, rfl, _, _, rfl, rfl, .inl ⟨by decide, by decide⟩, _, _, rfl, rfl, _, _, rfl, rfl, .inl ⟨_, rfl, _, _, rfl, rfl, (by show (0 : Int) < 999999999999999877; decide), ?_⟩⟩
        refine ⟨_, rfl, _, _, rfl, rfl, ⟨by decide, by decide, by decide⟩, _, _, rfl, rfl, .inr ⟨by decide, by decide⟩, _, rfl, _, _, rfl, rfl, ⟨by decide, by decide⟩, _, _, rfl, rfl, ?_⟩
        refine ⟨_, _, _, Int.emod_nonneg _ (by decide), Int.lt_trans (Int.emod_lt_of_pos _ (by decide)) (by decide), ?_, rfl, rfl⟩
        have a1 : 0 ≤ m * (10 : Int) ^ (17 : Int).toNat := Int.mul_nonneg h3 (by decide)
        exact Int.add_nonneg a1 (Int.ediv_nonneg (Int.emod_nonneg _ (by decide)) (by decide))
      · rintro σ H' ⟨l, m, x, h1, h2, h3, rfl, rfl⟩
        exact ⟨_, rfl, (by show 1 ≤ sizeLine; decide), fun p hp => k p _ hp h3⟩
def sp_draw : Sp := fun vs H Q _ => ∃ p m z, vs = [.ref p, .int m] ∧ H p = some (.lst [.int z]) ∧ 0 ≤ z ∧ 0 < m ∧ m.natAbs.log2 < 9000 ∧ ∀ d y, 0 ≤ d → d < m → 0 ≤ y → Q (.int d) (upd H p (.lst [.int y]))
theorem ok_law_draw (T : Tx K mg) : FnOk P w K mg base CX0 1 T.f_law_draw T.d_law_draw ["spring", "many"] sp_draw := by
  refine T.F_law_draw.ok sc_law_draw (fun vs H Q E h => ?_) (fun cdv A outer s H vs Q E hr h => ?_)
  · obtain ⟨p, m, z, rfl, _⟩ := h
    rfl
  · obtain ⟨p, m, z, rfl, hp, hz, hm, hl, k⟩ := h
    refine ⟨_,
    (pss_cons
      (ps_set (i := 2) sc_law_draw.nd rfl (.inl rfl) (pe_op op_mod (pe_callTy call_int1 (by rfl) T.m_int (by decide +kernel) (pa_cons (pe_ix ix_list (pv 0) pe_int (fun _ _ => rfl)) pa_nil)) (pv 1)))
    (pss_cons
      (ps_asg (pe_op op_fdivW (pe_ix ix_list (pv 0) pe_int (fun _ _ => rfl)) (pv 1)) (pg_sub (pv 0) pe_int set_list))
    (pss_one
      (ps_ret (pv 2))))), ?_⟩
    refine ⟨_, rfl, p, _, _, _, rfl, rfl, .of hp, atI_nat (j := 0) rfl, .inl ⟨_, rfl, _, rfl, _, _, rfl, rfl, hm, ?_⟩⟩
    refine ⟨_, rfl, p, _, _, _, rfl, rfl, .of hp, atI_nat (j := 0) rfl, _, rfl, _, _, rfl, rfl, ⟨hm, hl⟩, _, rfl, p, _, _, 0, rfl, rfl, hp, rfl, ?_⟩
    exact ⟨_, rfl, k _ _ (Int.emod_nonneg _ (by omega)) (Int.emod_lt_of_pos _ hm) (Int.ediv_nonneg hz (by omega))⟩
/-! ### values of polynomials, walked -/
/-- sizes at which no step of the value is too long -/
def VOk (row : List Int) (n : Int) : Prop := ∃ B b : Nat, (∀ a ∈ row, a.natAbs < 2 ^ B) ∧ n.natAbs + row.length ≤ 2 ^ b ∧ 1 ≤ B ∧ 1 ≤ b ∧ B + b * row.length + b + 2 ≤ 900000 ∧ row.length ≤ 400
theorem VOk.ops {row : List Int} {n a : Int} {i : Nat} (h : VOk row n) (g : row[i]? = some a) : CMulW a (W n i) ∧ CMulW (W n i) (n - (0 + (i : Int))) ∧ CDivW (W n i * (n - (0 + (i : Int)))) (0 + (i : Int) + 1) := by
  obtain ⟨B, b, h1, h2, h3, h4, h5, h6⟩ := h
  have hi := (List.getElem?_eq_some_iff.mp g).1
  have ha := h1 a (List.mem_of_getElem? g)
  have hw : (W n i).natAbs ≤ 2 ^ (b * i) := W_size (by omega)
  have hb : b * i ≤ b * row.length := Nat.mul_le_mul_left _ (by omega)
  have hw2 : (W n i).natAbs < 2 ^ (b * i + 1) := Nat.lt_of_le_of_lt hw (Nat.pow_lt_pow_right (by decide) (by omega))
  have hn : (n - (0 + (i : Int))).natAbs < 2 ^ (b + 1) := Nat.lt_of_le_of_lt (by omega) (Nat.pow_lt_pow_right (by decide) (show b < b + 1 by omega))
  refine ⟨wide_mul ha hw2 (by omega) (by omega) (by omega), wide_mul hw2 hn (by omega) (by omega) (by omega), wide_div (b := 10) (by omega) ?_ (by decide) (by decide)⟩
  show _ < 1024
  omega
theorem W_go (n : Int) (i : Nat) : W n i * (n - (0 + (i : Int))) / (0 + (i : Int) + 1) = W n (i + 1) := by
  rw [Int.zero_add]
  exact W_div n i
def sp_value (K : PySem.W.Frag) : Sp := fun vs H Q _ => ∃ p row n, vs = [.ref p, .int n] ∧ SqL K H p (row.map V.int) ∧ VOk row n ∧ ∀ H', Same H H' → Q (.int (pol row n)) H'
theorem ok_value_at (T : Tx K mg) : FnOk P w K mg base CX0 1 T.f_value_at T.d_value_at ["poly", "n"] (sp_value K) := by
  refine T.F_value_at.ok sc_value_at (fun vs H Q E h => ?_) (fun cdv A outer s H vs Q E hr h => ?_)
  · obtain ⟨p, row, n, rfl, _⟩ := h
    rfl
  · obtain ⟨p, row, n, rfl, hS, hv, k⟩ := h
    refine ⟨_,
    (pss_cons
      (ps_set (i := 2) sc_value_at.nd rfl (.inl rfl) pe_int)
    (pss_cons
      (ps_set (i := 3) sc_value_at.nd rfl (.inl rfl) pe_int)
    (pss_cons
      (ps_for PassesOwn.never rfl (pi_enum (by rfl) T.m_enumerate (pa_cons (pv 0) pa_nil)) (pg_tup (by rfl) (pgs_cons (pg_name (i := 4) sc_value_at.nd rfl (.inl rfl)) (pgs_cons (pg_name (i := 5) sc_value_at.nd rfl (.inl rfl)) pgs_nil)))
        (pss_cons
          (ps_set (i := 2) sc_value_at.nd rfl (.inl rfl) (pe_op op_add (pv 2) (pe_op op_mulW (pv 5) (pv 3))))
        (pss_one
          (ps_set (i := 3) sc_value_at.nd rfl (.inl rfl) (pe_op op_fdivW (pe_op op_mulW (pv 3) (pe_op op_sub (pv 1) (pv 4))) (pe_op op_add (pv 4) pe_int))))))
    (pss_one
      (ps_ret (pv 2)))))), ?_⟩
    refine ⟨_, rfl, p, _, rfl, hS, for_enum (xs := row.map V.int) (fun i σ H' => Same H H' ∧ ∃ x4 x5, σ = [some (.ref p), some (.int n), some (.int (pol (row.take i) n)), some (.int (W n i)), x4, x5]) ?_ ?_ ?_ ?_⟩
    · exact ⟨Same.refl H, none, none, rfl⟩
    · rintro i σ H' _ ⟨sm, _⟩
      exact sm.seq hS
    · rintro i x σ H1 U hi ⟨sm, x4, x5, rfl⟩ hU
      rw [List.getElem?_map] at hi
      obtain ⟨a, ha, rfl⟩ := Option.map_eq_some_iff.mp hi
      obtain ⟨c1, c2, c3⟩ := hv.ops ha
      rw [Int.zero_add] at c2 c3
      refine ⟨U, _, rfl, .of upd_same, rfl, _, _, rfl, _, _, rfl, rfl, _, rfl, _, rfl, _, rfl, _, _, rfl, rfl, c1, _, _, rfl, rfl, ?_⟩
      refine ⟨_, rfl, _, rfl, _, rfl, _, _, rfl, rfl, _, _, rfl, rfl, c2, _, rfl, _, _, rfl, rfl, _, _, rfl, rfl, c3, ?_⟩
      refine ⟨sm.trans (same_upd hU), some (V.int (i : Nat)), some (V.int a), ?_⟩
      rw [pol_take ha, ← W_div]
      rfl
    · rintro σ H1 ⟨sm, x4, x5, rfl⟩
      rw [List.length_map, List.take_of_length_le (Nat.le_refl _)]
      exact ⟨_, rfl, k H1 sm⟩
theorem kb_value_at (T : Tx K mg) : KBn K T.d_value_at ["poly", "n"] 0 ["poly", "n"] (fun _ ws => ws) (fun _ zs => zs) := by
  obtain ⟨oc, od, kV, doc, pm, an, cdv, ct, osl, e, _, _⟩ := T.F_value_at.ex
  refine ⟨fun s us ws _ h1 h2 => ?_, fun _ r => r⟩
  rw [e]
  match us, ws, h1, h2 with
  | [], [_, _], _, _ => exact BindsTo.of_eq rfl
def sp_lvalue (K : PySem.W.Frag) : Sp := fun vs H Q _ => ∃ p row n, vs = [.ref p, .int n] ∧ SqL K H p (row.map V.int) ∧ VOk row n ∧ Q (.int (pol row n)) H
theorem ok_law_value (T : Tx K mg) : FnOk P w K mg base CX0 1 T.f_law_value T.d_law_value ["terms", "at"] (sp_lvalue K) := by
  refine T.F_law_value.ok sc_law_value (fun vs H Q E h => ?_) (fun cdv A outer s H vs Q E hr h => ?_)
  · obtain ⟨p, row, n, rfl, _⟩ := h
    rfl
  · obtain ⟨p, row, n, rfl, hS, hv, k⟩ := h
    refine ⟨_,
    (pss_cons
      (ps_set (i := 2) sc_law_value.nd rfl (.inl rfl) pe_int)
    (pss_cons
      (ps_set (i := 3) sc_law_value.nd rfl (.inl rfl) pe_int)
    (pss_cons
      (ps_for PassesOwn.never rfl (pi_range1 (by rfl) T.m_range (pa_cons (pe_callB call_len_seq (by rfl) T.m_len (by decide +kernel) (pa_cons (pv 0) pa_nil)) pa_nil)) (pg_name (i := 4) sc_law_value.nd rfl (.inl rfl))
        (pss_cons
          (ps_set (i := 2) sc_law_value.nd rfl (.inl rfl) (pe_op op_add (pv 2) (pe_op op_mulW (pe_ix ix_list (pv 0) (pv 4) (fun _ _ => rfl)) (pv 3))))
        (pss_one
          (ps_set (i := 3) sc_law_value.nd rfl (.inl rfl) (pe_op op_fdivW (pe_op op_mulW (pv 3) (pe_op op_sub (pv 1) (pv 4))) (pe_op op_add (pv 4) pe_int))))))
    (pss_one
      (ps_ret (pv 2)))))), ?_⟩
    have hlen : row.length ≤ 400 := by
      obtain ⟨B, b, h1, h2, h3, h4, h5, h6⟩ := hv
      exact h6
    refine ⟨_, rfl, p, _, rfl, .inl hS, _, rfl, ?_, ?_, for_range (n := _) (fun i σ H' => H' = H ∧ ∃ x4, σ = [some (.ref p), some (.int n), some (.int (pol (row.take i) n)), some (.int (W n i)), x4]) ?_ ?_ ?_⟩
    · rw [List.length_map]; omega
    · rw [List.length_map]; omega
    · exact ⟨rfl, none, rfl⟩
    · rintro i σ H1 hi ⟨rfl, x4, rfl⟩
      rw [List.length_map, Int.toNat_natCast] at hi
      have ha : row[i]? = some row[i] := List.getElem?_eq_getElem hi
      have gi : (row.map V.int)[i]? = some (V.int row[i]) := by rw [List.getElem?_map, ha]; rfl
      obtain ⟨c1, c2, c3⟩ := hv.ops ha
      refine ⟨_, rfl, _, rfl, _, rfl, p, _, _, _, rfl, rfl, hS, at_of (j := i) (by omega) gi, _, rfl, _, _, rfl, rfl, c1, _, _, rfl, rfl, ?_⟩
      refine ⟨_, rfl, _, rfl, _, rfl, _, _, rfl, rfl, _, _, rfl, rfl, c2, _, rfl, _, _, rfl, rfl, _, _, rfl, rfl, c3, rfl, some (V.int (0 + (i : Int))), ?_⟩
      rw [pol_take ha, ← W_go]
      rfl
    · rintro σ H1 ⟨rfl, x4, rfl⟩
      rw [List.length_map, Int.toNat_natCast, List.take_of_length_le (Nat.le_refl _)]
      exact ⟨_, rfl, k⟩
theorem pickI {ms : List Int} {w : Int} (h0 : 0 ≤ w) (h1 : w < ms.length) : ∃ m, m ∈ ms ∧ (ms.map V.int)[w.toNat]? = some (V.int m) := by
  have h : w.toNat < ms.length := by omega
  exact ⟨ms[w.toNat], List.getElem_mem h, by rw [List.getElem?_map, List.getElem?_eq_getElem h]; rfl⟩
def spLaw (K : PySem.W.Frag) : Sp := fun vs H Q _ => ∃ (a : Addr) (ns : List Int), vs = [.ref a] ∧ SqL K H a (ns.map V.int) ∧ ns.length ≤ 63 ∧ ∀ H', Q (.bl true) H'
theorem ok_law (T : Tx K mg) : FnOk P w K mg base CX0 2 T.f_law T.d_law ["script"] (spLaw K) := by
  refine T.F_law.ok sc_law (fun vs H Q E h => ?_) (fun cdv A outer s H vs Q E hr h => ?_)
  · obtain ⟨a, ns, rfl, _⟩ := h
    rfl
  · obtain ⟨a, ns, rfl, hS, hl, k⟩ := h
    refine ⟨_,
    (pss_cons
      (ps_for PassesOwn.never rfl (pi_list (pe_op op_cat (pe_lst (pa_cons pe_int pa_nil)) (pe_slice sl_list (pv 0) po_none (po_some pe_int)))) (pg_name (i := 1) sc_law.nd rfl (.inl rfl))
        (pss_cons
          (ps_set (i := 2) sc_law.nd rfl (.inr rfl) (pe_call (ok_law_spring T) hr (by rfl) T.g_law_spring T.F_law_spring.kp T.b_law_spring .nil pass0 (pa_cons (pv 1) pa_nil)))
        (pss_cons
          (ps_set (i := 3) sc_law.nd rfl (.inr rfl) (pe_ix ix_list (pe_lst (pa_cons pe_int (pa_cons (pe_op op_pow pe_int pe_int) (pa_cons (pe_op op_pow pe_int pe_int) (pa_cons (pe_op op_mulW (pe_op op_mulW (pe_op op_pow pe_int pe_int) (pe_op op_pow pe_int pe_int)) (pe_op op_pow pe_int pe_int)) pa_nil))))) (pe_call (ok_law_draw T) hr (by rfl) T.g_law_draw T.F_law_draw.kp T.b_law_draw .nil pass0 (pa_cons (pv 2) (pa_cons pe_int pa_nil))) (fun _ _ => rfl)))
        (pss_cons
          (ps_set (i := 4) sc_law.nd rfl (.inl rfl) (pe_op op_add (pe_call (ok_law_draw T) hr (by rfl) T.g_law_draw T.F_law_draw.kp T.b_law_draw .nil pass0 (pa_cons (pv 2) (pa_cons pe_int pa_nil))) (pe_ix ix_list (pe_lst (pa_cons pe_int (pa_cons pe_int (pa_cons pe_int (pa_cons pe_int (pa_cons pe_int (pa_cons pe_int pa_nil))))))) (pe_call (ok_law_draw T) hr (by rfl) T.g_law_draw T.F_law_draw.kp T.b_law_draw .nil pass0 (pa_cons (pv 2) (pa_cons pe_int pa_nil))) (fun _ _ => rfl))))
        (pss_cons
          (ps_set (i := 5) sc_law.nd rfl (.inl rfl) (pe_op op_sub (pe_call (ok_law_draw T) hr (by rfl) T.g_law_draw T.F_law_draw.kp T.b_law_draw .nil pass0 (pa_cons (pv 2) (pa_cons pe_int pa_nil))) pe_int))
        (C8.pss_cut
          (ps_if (pt_cmpR op_eq (pe_call (ok_law_draw T) hr (by rfl) T.g_law_draw T.F_law_draw.kp T.b_law_draw .nil pass0 (pa_cons (pv 2) (pa_cons pe_int pa_nil))) pe_int (nomark _))
            (pss_one
              (ps_set (i := 5) sc_law.nd rfl (.inl rfl) (pe_op op_mul (pv 5) (pe_op op_add (pe_op op_pow pe_int pe_int) (pe_call (ok_law_draw T) hr (by rfl) T.g_law_draw T.F_law_draw.kp T.b_law_draw .nil pass0 (pa_cons (pv 2) (pa_cons (pe_op op_pow pe_int pe_int) pa_nil)))))))
            pss_nil)
        (pss_cons
          (ps_set (i := 6) sc_law.nd rfl (.inl rfl) (pe_call (ok_law_draw T) hr (by rfl) T.g_law_draw T.F_law_draw.kp T.b_law_draw .nil pass0 (pa_cons (pv 2) (pa_cons pe_int pa_nil))))
        (pss_cons
          (ps_set (i := 7) sc_law.nd rfl (.inl rfl) (pe_op op_cat (pe_lc (own := [("k", 12)]) (g := gName 12) rfl sc_law.nd (pi_range1 (by rfl) T.m_range (pa_cons (pv 4) pa_nil)) (blkOk_by (N := ["script", "cell", "spring", "most", "long", "at", "ends", "row", "handed", "due", "found", "spot", "k"]) (sc := defScope s_law) (own := [("k", 12)]) (by decide +kernel)) (fun _ _ _ _ _ => (pg_name (i := 12) sc_law.nd rfl (.inl rfl))) (fun _ _ _ _ _ => pts_nil) (fun _ _ _ _ _ => (pe_op op_sub (pe_op op_fdiv (pv 3) pe_int) (pe_call (ok_law_draw T) hr (by rfl) T.g_law_draw T.F_law_draw.kp T.b_law_draw .nil pass0 (pa_cons (pv 2) (pa_cons (pv 3) pa_nil)))))) (pe_slice sl_list (pe_lst (pa_cons pe_int (pa_cons pe_int pa_nil))) po_none (po_some (pv 6)))))
        (pss_cons
          (ps_set (i := 8) sc_law.nd rfl (.inl rfl) (pe_callTy call_list_of (by rfl) T.m_list (by decide +kernel) (pa_cons (pv 7) pa_nil)))
        (pss_cons
          (ps_set (i := 9) sc_law.nd rfl (.inl rfl) (pe_call (ok_law_value T) hr (by rfl) T.g_law_value T.F_law_value.kp T.b_law_value .nil pass0 (pa_cons (pv 7) (pa_cons (pv 5) pa_nil))))
        (pss_cons
          (ps_for PassesOwn.never rfl (pi_list (pe_lst (pa_cons (pe_call (ok_value_at T) hr (by rfl) T.g_value_at T.F_value_at.kp T.b_value_at .nil pass0 (pa_cons (pv 8) (pa_cons (pv 5) pa_nil))) (pa_cons (pe_callN0 (ok_value_at T) hr (by rfl) T.g_value_at T.F_value_at.kp (kb_value_at T) pass0 (pk_cons (pv 8) (pk_cons (pv 5) pk_nil))) pa_nil)))) (pg_name (i := 10) sc_law.nd rfl (.inl rfl))
            (pss_one
              (ps_if (PW.pt (pw_or (pt_not (pt_val (pe_call (ok_law_is_integer T) hr (by rfl) T.g_law_is_integer T.F_law_is_integer.kp T.b_law_is_integer .nil pass0 (pa_cons (pv 10) pa_nil)))) (pw_or1 (pt_cmpR op_ne (pv 10) (pv 9) (nomark _)))))
                (pss_one
                  (ps_ret pe_bl))
                pss_nil)))
        (pss_cons
          (ps_if (PW.pt (pw_or (pt_cmpR op_ne (pe_op op_sub (pe_call (ok_value_at T) hr (by rfl) T.g_value_at T.F_value_at.kp T.b_value_at .nil pass0 (pa_cons (pv 8) (pa_cons (pe_op op_add (pv 5) pe_int) pa_nil))) (pv 9)) (pe_call (ok_value_at T) hr (by rfl) T.g_value_at T.F_value_at.kp T.b_value_at .nil pass0 (pa_cons (pe_slice sl_list (pv 7) (po_some pe_int) po_none) (pa_cons (pv 5) pa_nil))) (nomark _)) (pw_or1 (pt_cmpR op_ne (pe_call (ok_value_at T) hr (by rfl) T.g_value_at T.F_value_at.kp T.b_value_at .nil pass0 (pa_cons (pv 8) (pa_cons pe_int pa_nil))) (pe_callB (cr_sum rfl) (by rfl) T.m_sum (by decide +kernel) (pa_cons (pe_slice sl_list (pv 7) po_none (po_some pe_int)) pa_nil)) (nomark _)))))
            (pss_one
              (ps_ret pe_bl))
            pss_nil)
        (pss_cons
          (ps_if (pt_cmpR (op_neD hr.units) (pv 8) (pv 7) (nomark _))
            (pss_one
              (ps_ret pe_bl))
            pss_nil)
        (pss_one
          (ps_if (pt_cmpR (op_neD hr.units) (pv 8) (pe_lst pa_nil) (nomark _))
            (pss_cons
              (ps_set (i := 11) sc_law.nd rfl (.inl rfl) (pe_call (ok_law_draw T) hr (by rfl) T.g_law_draw T.F_law_draw.kp T.b_law_draw .nil pass0 (pa_cons (pv 2) (pa_cons (pe_callB call_len_seq (by rfl) T.m_len (by decide +kernel) (pa_cons (pv 8) pa_nil)) pa_nil))))
            (pss_cons
              (ps_asg (pe_op op_add (pe_ix ix_list (pv 8) (pv 11) (fun _ _ => rfl)) pe_int) (pg_sub (pv 8) (pv 11) set_list))
            (pss_one
              (ps_if (pt_cmpR op_ne (pe_call (ok_value_at T) hr (by rfl) T.g_value_at T.F_value_at.kp T.b_value_at .nil pass0 (pa_cons (pv 8) (pa_cons (pv 5) pa_nil))) (pe_call (ok_law_value T) hr (by rfl) T.g_law_value T.F_law_value.kp T.b_law_value .nil pass0 (pa_cons (pv 8) (pa_cons (pv 5) pa_nil))) (nomark _))
                (pss_one
                  (ps_ret pe_bl))
                pss_nil))))
            pss_nil)))))))))))))))
    (pss_one
      (ps_ret pe_bl))), ?_⟩
    refine ⟨(by show 1 ≤ sizeLine; decide), fun l hl0 => ⟨_, rfl, _, rfl, a, _, rfl, (same_upd hl0).seq hS, fun b hb => ⟨l, b, [V.int 11], _, rfl, rfl, ?_, upd_same, ?_, fun A hA => ⟨_, rfl, ⟨_, .of upd_same⟩,
      for_list (xs := [V.int 11] ++ cutV (ns.map V.int) none (some 10)) (fun _ σ H' => H' A = some (.lst ([V.int 11] ++ cutV (ns.map V.int) none (some 10))) ∧ ∃ x1 x2 x3 x4 x5 x6 x7 x8 x9 x10 x11 x12, σ = [some (.ref a), x1, x2, x3, x4, x5, x6, x7, x8, x9, x10, x11, x12]) ?_ ?_ ?_ ?_⟩⟩⟩⟩
    · rw [upd_ne (ne_of_none upd_same hb), upd_same]
    · have h := cutV_length (ns.map V.int) none (some 10)
      rw [List.length_map] at h
      exact Nat.le_of_lt (small1000 (n := 1 + _) (by omega))
    · exact ⟨upd_same, none, none, none, none, none, none, none, none, none, none, none, none, rfl⟩
    · rintro i σ H' _ ⟨eA, _⟩
      exact .of eA
    · rintro i x σ H1 hi ⟨eA, x1, x2, x3, x4, x5, x6, x7, x8, x9, x10, x11, x12, rfl⟩
      obtain ⟨c, rfl⟩ : ∃ c, x = .int c := by
        rcases List.mem_append.mp (List.mem_of_getElem? hi) with h | h
        · exact ⟨11, List.mem_singleton.mp h⟩
        · obtain ⟨c, _, rfl⟩ := List.mem_map.mp (List.mem_of_mem_drop (List.mem_of_mem_take h))
          exact ⟨c, rfl⟩
      generalize [V.int 11] ++ cutV (ns.map V.int) none (some 10) = xs at *
      -- spring, most
      refine ⟨_, rfl, c, rfl, fun p z hp hz => ?_⟩
      have Ap : A ≠ p := ne_of_none eA hp
      have eA1 : (upd H1 p (.lst [.int z])) A = some (.lst xs) := by rw [upd_ne Ap]; exact eA
      have ep1 : (upd H1 p (.lst [.int z])) p = some (.lst [.int z]) := upd_same
      generalize upd H1 p (.lst [.int z]) = H2 at *
      clear hp
      have hm0 : ∀ m ∈ [7, (10 : Int) ^ (6 : Int).toNat, (10 : Int) ^ (30 : Int).toNat, (10 : Int) ^ (64 : Int).toNat * (10 : Int) ^ (64 : Int).toNat * (10 : Int) ^ (64 : Int).toNat], 0 < m ∧ m.natAbs < 2 ^ 690 := by decide +kernel
      have wm : ∀ i j : Int, i.natAbs < 2 ^ 1000 → j.natAbs < 2 ^ 1000 → CMulW i j := fun i j h1 h2 => wide_mul h1 h2 (by decide) (by decide) (by decide)
      refine ⟨_, _, rfl, rfl, ⟨by decide, by decide, by decide⟩, _, _, rfl, rfl, ⟨by decide, by decide, by decide⟩, _, _, rfl, rfl, ⟨by decide, by decide, by decide⟩, _, _, rfl, rfl, ⟨by decide, by decide, by decide⟩, _, _, rfl, rfl, wm _ _ (by decide +kernel) (by decide +kernel), _, _, rfl, rfl, ⟨by decide, by decide, by decide⟩, _, _, rfl, rfl, wm _ _ (by decide +kernel) (by decide +kernel), (by show 4 ≤ sizeLine; decide), fun L hL => ?_⟩
      have pL : p ≠ L := ne_of_none ep1 hL
      have AL : A ≠ L := ne_of_none eA1 hL
      refine ⟨_, rfl, p, 4, z, rfl, (by rw [upd_ne pL]; exact ep1), hz, by decide, by decide +kernel, fun w0 y w00 w01 y0 => ?_⟩
      obtain ⟨m, hm, gm⟩ := pickI (ms := [7, (10 : Int) ^ (6 : Int).toNat, (10 : Int) ^ (30 : Int).toNat, (10 : Int) ^ (64 : Int).toNat * (10 : Int) ^ (64 : Int).toNat * (10 : Int) ^ (64 : Int).toNat]) w00 w01
      obtain ⟨m0, m1⟩ := hm0 m hm
      refine ⟨L, _, _, V.int m, rfl, rfl, .of (by rw [upd_ne pL.symm]; exact upd_same), at_of (j := w0.toNat) (by omega) gm, ?_⟩
      have eA2 : (upd (upd H2 L (.lst ([7, (10 : Int) ^ (6 : Int).toNat, (10 : Int) ^ (30 : Int).toNat, (10 : Int) ^ (64 : Int).toNat * (10 : Int) ^ (64 : Int).toNat * (10 : Int) ^ (64 : Int).toNat].map V.int))) p (.lst [.int y])) A = some (.lst xs) := by rw [upd_ne Ap, upd_ne AL]; exact eA1
      have ep2 : (upd (upd H2 L (.lst ([7, (10 : Int) ^ (6 : Int).toNat, (10 : Int) ^ (30 : Int).toNat, (10 : Int) ^ (64 : Int).toNat * (10 : Int) ^ (64 : Int).toNat * (10 : Int) ^ (64 : Int).toNat].map V.int))) p (.lst [.int y])) p = some (.lst [.int y]) := upd_same
      show gName 3 _ _ (upd (upd H2 L (.lst ([7, (10 : Int) ^ (6 : Int).toNat, (10 : Int) ^ (30 : Int).toNat, (10 : Int) ^ (64 : Int).toNat * (10 : Int) ^ (64 : Int).toNat * (10 : Int) ^ (64 : Int).toNat].map V.int))) p (.lst [.int y])) _
      generalize upd (upd H2 L (.lst ([7, (10 : Int) ^ (6 : Int).toNat, (10 : Int) ^ (30 : Int).toNat, (10 : Int) ^ (64 : Int).toNat * (10 : Int) ^ (64 : Int).toNat * (10 : Int) ^ (64 : Int).toNat].map V.int))) p (.lst [.int y]) = H3 at *
      clear hm gm hm0 wm pL AL hL ep1 eA1 hz L w00 w01 eA
      -- long
      refine ⟨_, rfl, p, 5, y, rfl, ep2, y0, by decide, by decide +kernel, fun d1 y1 d10 d11 y10 => ⟨(by show 6 ≤ sizeLine; decide), fun L hL => ?_⟩⟩
      have pL : p ≠ L := ne_of_none upd_same hL
      have AL : A ≠ L := ne_of_none (by rw [upd_ne Ap]; exact eA2) hL
      refine ⟨_, rfl, p, 6, y1, rfl, (by rw [upd_ne pL]; exact upd_same), y10, by decide, by decide +kernel, fun w0 y2 w00 w01 y20 => ?_⟩
      obtain ⟨mm, hmm, gm⟩ := pickI (ms := [0, 0, 0, 0, 36, 94]) w00 w01
      have hmm2 : 0 ≤ mm ∧ mm ≤ 94 := by
        have : ∀ m ∈ ([0, 0, 0, 0, 36, 94] : List Int), 0 ≤ m ∧ m ≤ 94 := by decide
        exact this mm hmm
      refine ⟨L, _, _, V.int mm, rfl, rfl, .of (by rw [upd_ne pL.symm]; exact upd_same), at_of (j := w0.toNat) (by omega) gm, _, _, rfl, rfl, ?_⟩
      have eA3 : (upd (upd (upd H3 p (.lst [.int y1])) L (.lst ([0, 0, 0, 0, 36, 94].map V.int))) p (.lst [.int y2])) A = some (.lst xs) := by rw [upd_ne Ap, upd_ne AL, upd_ne Ap]; exact eA2
      have ep3 : (upd (upd (upd H3 p (.lst [.int y1])) L (.lst ([0, 0, 0, 0, 36, 94].map V.int))) p (.lst [.int y2])) p = some (.lst [.int y2]) := upd_same
      show gName 4 (V.int (d1 + mm)) _ (upd (upd (upd H3 p (.lst [.int y1])) L (.lst ([0, 0, 0, 0, 36, 94].map V.int))) p (.lst [.int y2])) _
      generalize upd (upd (upd H3 p (.lst [.int y1])) L (.lst ([0, 0, 0, 0, 36, 94].map V.int))) p (.lst [.int y2]) = H4 at *
      have hlong : 0 ≤ d1 + mm ∧ d1 + mm ≤ 98 := by omega
      generalize d1 + mm = lo at *
      clear hmm hmm2 gm pL AL hL ep2 eA2 y0 y10 L w00 w01 d10 d11
      -- at
      refine ⟨_, rfl, p, 20, y2, rfl, ep3, y20, by decide, by decide +kernel, fun d2 y3 d20 d21 y30 => ⟨_, _, rfl, rfl, ?_⟩⟩
      refine ⟨fun σ H' => ∃ (n y : Int), n.natAbs + 102 ≤ 2 ^ 200 ∧ 0 ≤ y ∧ σ = [some (.ref a), some (.int c), some (.ref p), some (.int m), some (.int lo), some (.int n), x6, x7, x8, x9, x10, x11, x12] ∧ H' p = some (.lst [.int y]) ∧ H' A = some (.lst xs),
        ⟨_, rfl, p, 2, y3, rfl, upd_same, y30, by decide, by decide +kernel, fun d3 y4 d30 d31 y40 => ⟨rfl, _, rfl, ite2 (fun c1 => ?_) (fun c1 => ?_)⟩⟩, ?_⟩
      · refine ⟨_, rfl, _, _, rfl, rfl, ⟨by decide, by decide, by decide⟩, _, rfl, _, _, rfl, rfl, ⟨by decide, by decide, by decide⟩, p, _, y4, rfl, upd_same, y40, by decide, by decide +kernel, fun d4 y5 d40 d41 y50 => ⟨_, _, rfl, rfl, _, _, rfl, rfl, .inl ⟨by show -(2 ^ 64) < d2 - 10; omega, by show d2 - 10 < 2 ^ 64; omega⟩, ?_⟩⟩
        have d42 : d4 < (10 : Int) ^ (9 : Int).toNat := d41
        rw [show (10 : Int) ^ (9 : Int).toNat = 1000000000 by decide] at d42
        refine ⟨_, y5, ?_, y50, rfl, upd_same, ?_⟩
        · have h1 : (d2 - 10).natAbs ≤ 10 := by omega
          have h2 : ((10 : Int) ^ (57 : Int).toNat + d4).natAbs ≤ 10 ^ 57 + 10 ^ 9 := by
            rw [show (10 : Int) ^ (57 : Int).toNat = 10 ^ 57 by decide +kernel]
            omega
          have h3 : ((d2 - 10) * ((10 : Int) ^ (57 : Int).toNat + d4)).natAbs ≤ 10 * (10 ^ 57 + 10 ^ 9) := by
            rw [Int.natAbs_mul]
            exact Nat.mul_le_mul h1 h2
          have h4 : 10 * (10 ^ 57 + 10 ^ 9) + 102 ≤ 2 ^ 200 := by decide +kernel
          show ((d2 - 10) * ((10 : Int) ^ (57 : Int).toNat + d4)).natAbs + 102 ≤ 2 ^ 200
          exact Nat.le_trans (Nat.add_le_add_right h3 _) h4
        · rw [upd_ne Ap, upd_ne Ap, upd_ne Ap]; exact eA3
      · refine ⟨_, y4, ?_, y40, rfl, upd_same, ?_⟩
        · have h4 : 112 ≤ 2 ^ 200 := by decide +kernel
          exact Nat.le_trans (by show (d2 - 10).natAbs + 102 ≤ 112; omega) h4
        · rw [upd_ne Ap, upd_ne Ap]; exact eA3
      clear ep3 eA3 y20 y30 d20 d21
      rintro σ H5 ⟨n, y, hn, y0, rfl, ep, eA⟩
      -- ends, row
      refine ⟨_, rfl, p, 3, y, rfl, ep, y0, by decide, by decide +kernel, fun e y1 e0 e1 y10 => ⟨_, rfl, _, rfl, ?_, ?_, fun D hD => ?_⟩⟩
      · omega
      · omega
      have pD : p ≠ D := ne_of_none upd_same hD
      have AD : A ≠ D := ne_of_none (by rw [upd_ne Ap]; exact eA) hD
      refine lc_range (lo := 0) (n := _) (fun i H' => ∃ (y : Int) (r : List Int), r.length = i ∧ (∀ a ∈ r, a.natAbs < 2 ^ 700) ∧ 0 ≤ y ∧ H' p = some (.lst [.int y]) ∧ H' D = some (.lst (r.map V.int)) ∧ H' A = some (.lst xs)) ?_ ?_ ?_
      · refine ⟨y1, [], rfl, (fun _ h => absurd h List.not_mem_nil), y10, ?_, upd_same, ?_⟩
        · rw [upd_ne pD, upd_same]
        · rw [upd_ne AD, upd_ne Ap]; exact eA
      · rintro j H6 hj ⟨y, r, hl, hr, y0, ep, eD, eA⟩
        refine ⟨rfl, _, rfl, _, _, rfl, rfl, ⟨by decide, by decide⟩, _, rfl, _, rfl, p, m, y, rfl, ep, y0, m0, ?_, fun d y' d0 d1 y0' => ⟨_, _, rfl, rfl, r.map V.int, ?_, ?_, y', r ++ [m / 2 - d], ?_, ?_, y0', ?_, ?_, ?_⟩⟩
        · exact Nat.lt_trans (PySem.Flt.log2_lt_of (by decide) m1) (by decide)
        · rw [upd_ne pD.symm]; exact eD
        · rw [List.length_map, hl]; exact small1000 (by omega)
        · rw [List.length_append, hl]; rfl
        · intro a ha
          rcases List.mem_append.mp ha with h | h
          · exact hr a h
          · rw [List.mem_singleton.mp h]
            have h2 : (2 : Nat) ^ 690 + 2 ^ 690 ≤ 2 ^ 700 := by decide +kernel
            have h3 : (m / 2 - d).natAbs < 2 ^ 690 + 2 ^ 690 := by omega
            omega
        · rw [upd_ne pD, upd_same]
        · rw [upd_same, List.map_append]; rfl
        · rw [upd_ne AD, upd_ne Ap]; exact eA
      rintro H6 ⟨y, r, hl, hr, y0, ep, eD, eA⟩
      refine ⟨(by show 2 ≤ sizeLine; decide), fun Z hZ => ⟨_, rfl, _, rfl, Z, _, rfl, .of upd_same, fun Y hY => ?_⟩⟩
      obtain ⟨e', rfl⟩ := Int.eq_ofNat_of_zero_le e0
      have ec : cutV [V.int 0, V.int 0] none (some (e' : Int)) = (([0, 0] : List Int).take e').map V.int := by
        rw [cut_take, List.map_take]; rfl
      have ec2 : (([0, 0] : List Int).take e').length ≤ 2 := by rw [List.length_take]; exact Nat.min_le_right _ _
      have ec3 : ∀ a ∈ ([0, 0] : List Int).take e', a.natAbs < 2 ^ 700 := by
        have : ∀ a ∈ ([0, 0] : List Int), a.natAbs < 2 ^ 700 := by decide +kernel
        exact fun a ha => this a (List.mem_of_mem_take ha)
      rw [ec]
      generalize ([0, 0] : List Int).take e' = tl at ec2 ec3 ⊢
      have DZ : D ≠ Z := ne_of_none eD hZ
      have DY : D ≠ Y := ne_of_none (by rw [upd_ne DZ]; exact eD) hY
      refine ⟨D, Y, r.map V.int, tl.map V.int, rfl, rfl, ?_, upd_same, ?_, fun R hR => ?_⟩
      · rw [upd_ne DY, upd_ne DZ]; exact eD
      · rw [List.length_map, List.length_map, hl]; exact Nat.le_of_lt (small1000 (by omega))
      rw [← List.map_append]
      have hrow : ∀ a ∈ r ++ tl, a.natAbs < 2 ^ 700 := fun a ha => by
        rcases List.mem_append.mp ha with h | h
        · exact hr a h
        · exact ec3 a h
      have hrl : (r ++ tl).length ≤ 100 := by rw [List.length_append, hl]; omega
      generalize r ++ tl = row at hrow hrl ⊢
      have s1 : Same H6 (upd (upd (upd H6 Z (.lst [V.int 0, V.int 0])) Y (.lst (tl.map V.int))) R (.lst (row.map V.int))) := ((same_upd hZ).trans (same_upd hY)).trans (same_upd hR)
      have eR : (upd (upd (upd H6 Z (.lst [V.int 0, V.int 0])) Y (.lst (tl.map V.int))) R (.lst (row.map V.int))) R = some (.lst (row.map V.int)) := upd_same
      have eA7 := s1 _ _ eA
      have ep7 := s1 _ _ ep
      have pR : p ≠ R := ne_of_none (((same_upd hZ).trans (same_upd hY)) _ _ ep) hR
      generalize upd (upd (upd H6 Z (.lst [V.int 0, V.int 0])) Y (.lst (tl.map V.int))) R (.lst (row.map V.int)) = H7 at *
      clear s1 eA ep eD hZ hY hR hl hr ec ec2 ec3
      have vok : ∀ (r : List Int) (k : Int), (∀ a ∈ r, a.natAbs < 2 ^ 700) → r.length ≤ 100 → k.natAbs ≤ n.natAbs + 1 → VOk r k := fun r k h1 h2 h3 => ⟨700, 200, h1, Nat.le_trans (by omega) hn, by decide, by decide, by omega, by omega⟩
      -- handed, due
      refine ⟨_, rfl, R, _, rfl, .inl (.of eR), fun G hG => ?_⟩
      have pG : p ≠ G := ne_of_none ep7 hG
      have RG : R ≠ G := ne_of_none eR hG
      have AG : A ≠ G := ne_of_none eA7 hG
      have s1 := same_upd (o := .lst (row.map V.int)) hG
      have eG : (upd H7 G (.lst (row.map V.int))) G = some (.lst (row.map V.int)) := upd_same
      have eA := s1 _ _ eA7
      have ep := s1 _ _ ep7
      have eR := s1 _ _ eR
      generalize upd H7 G (.lst (row.map V.int)) = H8 at *
      clear s1 eA7 ep7
      have v0 : VOk row n := vok row n hrow hrl (by omega)
      refine ⟨_, rfl, _, rfl, R, row, n, rfl, .of eR, v0, ?_⟩
      refine ⟨_, rfl, _, rfl, G, row, n, rfl, .of eG, v0, fun H9 s9 => ⟨_, rfl, _, rfl, rfl, rfl, G, row, n, rfl, .of (s9 _ _ eG), v0, fun H10 s10 => ⟨(by show 2 ≤ sizeLine; decide), fun L hL0 => ⟨_, rfl, ⟨_, .of upd_same⟩, ?_⟩⟩⟩⟩
      have s11 : Same H8 (upd H10 L (.lst [V.int (pol row n), V.int (pol row n)])) := (s9.trans s10).trans (same_upd hL0)
      have eL0 : (upd H10 L (.lst [V.int (pol row n), V.int (pol row n)])) L = some (.lst [V.int (pol row n), V.int (pol row n)]) := upd_same
      generalize upd H10 L (.lst [V.int (pol row n), V.int (pol row n)]) = H11 at *
      refine for_list (xs := [V.int (pol row n), V.int (pol row n)]) (fun _ σ H' => Same H11 H' ∧ ∃ x10, σ = [some (.ref a), some (.int c), some (.ref p), some (.int m), some (.int lo), some (.int n), some (.int (e' : Int)), some (.ref R), some (.ref G), some (.int (pol row n)), x10, x11, x12]) ?_ ?_ ?_ ?_
      · exact ⟨Same.refl _, _, rfl⟩
      · rintro i σ H' _ ⟨sm, _⟩
        exact .of (sm _ _ eL0)
      · rintro i x σ H' hi ⟨sm, x10, rfl⟩
        obtain rfl : x = V.int (pol row n) := by
          have := List.mem_of_getElem? hi
          simpa using this
        exact ⟨_, rfl, _, rfl, _, rfl, _, rfl, _, rfl, rfl, _, rfl, iteNS rfl ⟨sm, _, rfl⟩⟩
      rintro σ H12 ⟨s12, x10, rfl⟩
      have s13 := s11.trans s12
      have eG := s13 _ _ eG
      have eR := s13 _ _ eR
      have eA := s13 _ _ eA
      have ep := s13 _ _ ep
      clear s13 s12 s11 s10 s9 eL0 hL0
      -- one day more, and none
      have vd : VOk (row.drop 1) n := vok _ _ (fun a ha => hrow a (List.mem_of_mem_drop ha)) (by rw [List.length_drop]; omega) (by omega)
      refine ⟨_, rfl, _, rfl, _, _, rfl, rfl, G, row, n + 1, rfl, .of eG, vok row (n + 1) hrow hrl (by omega), fun H13 s13 => ?_⟩
      refine ⟨_, rfl, _, _, rfl, rfl, _, rfl, _, rfl, R, _, rfl, .of (s13 _ _ eR), fun Y hY => ⟨_, rfl, Y, row.drop 1, n, rfl, ?_, vd, fun H14 s14 => ?_⟩⟩
      · rw [show cutV (row.map V.int) (some 1) none = (row.drop 1).map V.int from (cut_drop _ 1).trans List.map_drop.symm]; exact .of upd_same
      have s15 := (s13.trans (same_upd hY)).trans s14
      refine ⟨rfl, _, rfl, iteNS (congrArg V.int (pol_step n row)) ?_⟩
      refine ⟨_, rfl, G, row, 0, rfl, .of (s15 _ _ eG), vok row 0 hrow hrl (by show 0 ≤ _; omega), fun H16 s16 => ?_⟩
      have s17 := s15.trans s16
      refine ⟨_, rfl, _, rfl, R, _, rfl, .of (s17 _ _ eR), fun Y2 hY2 => ⟨Y2, row.take 1, rfl, ?_, ?_⟩⟩
      · rw [show cutV (row.map V.int) none (some 1) = (row.take 1).map V.int from (cut_take _ 1).trans List.map_take.symm]; exact .of upd_same
      refine ⟨rfl, _, rfl, iteNS (congrArg V.int (pol_zero row)) ?_⟩
      have s18 := s17.trans (same_upd (o := .lst (cutV (row.map V.int) none (some 1))) hY2)
      generalize upd H16 Y2 (.lst (cutV (row.map V.int) none (some 1))) = H18 at *
      have eG := s18 _ _ eG
      have eR := s18 _ _ eR
      have eA := s18 _ _ eA
      have ep := s18 _ _ ep
      clear s13 s14 s15 s16 s17 s18 hY hY2
      -- handed is as it was
      refine ⟨_, rfl, _, rfl, .list (row.map PyData.int), .list (row.map PyData.int), .lst (.of eG) dp_ints, .lst (.of eR) dp_ints, list_ok _, list_ok _, _, rfl, ?_⟩
      rw [SeqAt.eqv_refl _ (SeqAt.canLay_of_shaped (list_ok row))]
      refine iteF ?_
      refine ⟨_, rfl, Nat.zero_le _, fun Z hZ => ⟨.list (row.map PyData.int), .list [], .lst (.of (same_upd hZ _ _ eG)) dp_ints, .lst (.of upd_same) .nil, list_ok _, rfl, _, rfl, ?_⟩⟩
      have s1 := same_upd (o := .lst []) hZ
      have eG := s1 _ _ eG
      have eA := s1 _ _ eA
      have ep := s1 _ _ ep
      generalize upd H18 Z (.lst []) = H19 at *
      cases row with
      | nil => exact iteF ⟨eA, _, _, _, _, _, _, _, _, _, _, _, _, rfl⟩
      | cons v rr =>
        refine iteT ?_
        have hpos : 0 < (v :: rr).length := Nat.succ_pos _
        generalize v :: rr = row at *
        refine ⟨_, rfl, _, rfl, G, _, rfl, .inl (.of eG), p, _, _, rfl, ep, y0, ?_, ?_, fun d y' d0 d1 y0' => ?_⟩
        · rw [List.length_map]; omega
        · rw [List.length_map]; exact small_log (by omega)
        rw [List.length_map] at d1
        obtain ⟨j, rfl⟩ := Int.eq_ofNat_of_zero_le d0
        have hj : j < row.length := by omega
        have gj : (row.map V.int)[j]? = some (V.int row[j]) := by rw [List.getElem?_map, List.getElem?_eq_getElem hj]; rfl
        have eG2 : (upd H19 p (.lst [.int y'])) G = some (.lst (row.map V.int)) := by rw [upd_ne pG.symm]; exact eG
        refine ⟨_, rfl, _, rfl, G, _, _, _, rfl, rfl, .of eG2, atI_nat gj, _, _, rfl, rfl, _, rfl, _, rfl, G, _, _, j, rfl, rfl, eG2, ixN_nat (by rw [List.length_map]; exact hj), ?_⟩
        have er : (row.map V.int).set j (V.int (row[j] + 3)) = (row.set j (row[j] + 3)).map V.int := List.map_set.symm
        have v3 : VOk (row.set j (row[j] + 3)) n := by
          refine ⟨701, 200, fun a ha => ?_, ?_, by decide, by decide, ?_, ?_⟩
          · have h2 : (2 : Nat) ^ 700 + 3 ≤ 2 ^ 701 := by decide +kernel
            rcases List.mem_or_eq_of_mem_set ha with h | h
            · have := hrow a h; omega
            · have := hrow _ (List.getElem_mem hj); omega
          · rw [List.length_set]; omega
          · rw [List.length_set]; omega
          · rw [List.length_set]; omega
        have eG3 : (upd (upd H19 p (.lst [.int y'])) G (.lst ((row.map V.int).set j (V.int (row[j] + 3))))) G = some (.lst ((row.set j (row[j] + 3)).map V.int)) := by rw [upd_same, er]
        have eA3 : (upd (upd H19 p (.lst [.int y'])) G (.lst ((row.map V.int).set j (V.int (row[j] + 3))))) A = some (.lst xs) := by rw [upd_ne AG, upd_ne Ap]; exact eA
        refine ⟨_, rfl, _, rfl, G, _, n, rfl, .of eG3, v3, fun H20 s20 => ⟨_, rfl, _, rfl, G, _, n, rfl, .of (s20 _ _ eG3), v3, rfl, _, rfl, iteNS rfl ⟨s20 _ _ eA3, _, _, _, _, _, _, _, _, _, _, _, _, rfl⟩⟩⟩
    · rintro σ H' _
      exact k _
end
theorem all_mk {l : PySem.W.OpenLaw} {w : World} {K : PySem.W.Frag} {h : Heap} {mg : Str → Option Value} {fa f_value_at f_law_is_integer f_law_spring f_law_draw f_law_value f_law : Addr} (X : K.In h) (G : h.Ns mainGlobals mg) (hfa : mg "law" = some (.ref fa))
    {od_value_at an_value_at : Option Addr} {sl_value_at : Array (Option Value)} {oc_value_at kV_value_at dc_value_at pm_value_at cd_value_at ct_value_at : Value}
    {od_law_is_integer an_law_is_integer : Option Addr} {sl_law_is_integer : Array (Option Value)} {oc_law_is_integer kV_law_is_integer dc_law_is_integer pm_law_is_integer cd_law_is_integer ct_law_is_integer : Value}
    {od_law_spring an_law_spring : Option Addr} {sl_law_spring : Array (Option Value)} {oc_law_spring kV_law_spring dc_law_spring pm_law_spring cd_law_spring ct_law_spring : Value}
    {od_law_draw an_law_draw : Option Addr} {sl_law_draw : Array (Option Value)} {oc_law_draw kV_law_draw dc_law_draw pm_law_draw cd_law_draw ct_law_draw : Value}
    {od_law_value an_law_value : Option Addr} {sl_law_value : Array (Option Value)} {oc_law_value kV_law_value dc_law_value pm_law_value cd_law_value ct_law_value : Value}
    {od_law an_law : Option Addr} {sl_law : Array (Option Value)} {oc_law kV_law dc_law pm_law cd_law ct_law : Value}
    (a_value_at : PySem.W.nsIn K mainGlobals "value_at" = some (some (.ref f_value_at)))
    (l_value_at : K.lookup f_value_at = some ⟨oc_value_at, od_value_at, .func (PySem.W.fnOf "value_at" "value_at" (defArgs s_value_at) (defBody s_value_at) (defScope s_value_at) .none kV_value_at dc_value_at pm_value_at an_value_at cd_value_at ct_value_at), sl_value_at⟩)
    (c_value_at : PySem.W.codeIn K cd_value_at "value_at" = true)
    (k_value_at : PySem.W.keepIn K (.ref f_value_at) = true)
    (a_law_is_integer : PySem.W.nsIn K mainGlobals "_law_is_integer" = some (some (.ref f_law_is_integer)))
    (l_law_is_integer : K.lookup f_law_is_integer = some ⟨oc_law_is_integer, od_law_is_integer, .func (PySem.W.fnOf "_law_is_integer" "_law_is_integer" (defArgs s_law_is_integer) (defBody s_law_is_integer) (defScope s_law_is_integer) .none kV_law_is_integer dc_law_is_integer pm_law_is_integer an_law_is_integer cd_law_is_integer ct_law_is_integer), sl_law_is_integer⟩)
    (c_law_is_integer : PySem.W.codeIn K cd_law_is_integer "_law_is_integer" = true)
    (k_law_is_integer : PySem.W.keepIn K (.ref f_law_is_integer) = true)
    (a_law_spring : PySem.W.nsIn K mainGlobals "_law_spring" = some (some (.ref f_law_spring)))
    (l_law_spring : K.lookup f_law_spring = some ⟨oc_law_spring, od_law_spring, .func (PySem.W.fnOf "_law_spring" "_law_spring" (defArgs s_law_spring) (defBody s_law_spring) (defScope s_law_spring) .none kV_law_spring dc_law_spring pm_law_spring an_law_spring cd_law_spring ct_law_spring), sl_law_spring⟩)
    (c_law_spring : PySem.W.codeIn K cd_law_spring "_law_spring" = true)
    (k_law_spring : PySem.W.keepIn K (.ref f_law_spring) = true)
    (a_law_draw : PySem.W.nsIn K mainGlobals "_law_draw" = some (some (.ref f_law_draw)))
    (l_law_draw : K.lookup f_law_draw = some ⟨oc_law_draw, od_law_draw, .func (PySem.W.fnOf "_law_draw" "_law_draw" (defArgs s_law_draw) (defBody s_law_draw) (defScope s_law_draw) .none kV_law_draw dc_law_draw pm_law_draw an_law_draw cd_law_draw ct_law_draw), sl_law_draw⟩)
    (c_law_draw : PySem.W.codeIn K cd_law_draw "_law_draw" = true)
    (k_law_draw : PySem.W.keepIn K (.ref f_law_draw) = true)
    (a_law_value : PySem.W.nsIn K mainGlobals "_law_value" = some (some (.ref f_law_value)))
    (l_law_value : K.lookup f_law_value = some ⟨oc_law_value, od_law_value, .func (PySem.W.fnOf "_law_value" "_law_value" (defArgs s_law_value) (defBody s_law_value) (defScope s_law_value) .none kV_law_value dc_law_value pm_law_value an_law_value cd_law_value ct_law_value), sl_law_value⟩)
    (c_law_value : PySem.W.codeIn K cd_law_value "_law_value" = true)
    (k_law_value : PySem.W.keepIn K (.ref f_law_value) = true)
    (a_law : PySem.W.nsIn K mainGlobals "law" = some (some (.ref f_law)))
    (l_law : K.lookup f_law = some ⟨oc_law, od_law, .func (PySem.W.fnOf "law" "law" (defArgs s_law) (defBody s_law) (defScope s_law) .none kV_law dc_law pm_law an_law cd_law ct_law), sl_law⟩)
    (c_law : PySem.W.codeIn K cd_law "law" = true)
    (k_law : PySem.W.keepIn K (.ref f_law) = true)
    (z_bool : PySem.W.nsIn K mainGlobals "bool" = some none)
    (z_enumerate : PySem.W.nsIn K mainGlobals "enumerate" = some none)
    (z_int : PySem.W.nsIn K mainGlobals "int" = some none)
    (z_isinstance : PySem.W.nsIn K mainGlobals "isinstance" = some none)
    (z_len : PySem.W.nsIn K mainGlobals "len" = some none)
    (z_list : PySem.W.nsIn K mainGlobals "list" = some none)
    (z_range : PySem.W.nsIn K mainGlobals "range" = some none)
    (z_sum : PySem.W.nsIn K mainGlobals "sum" = some none)
    : ∃ fd : FuncData, (∀ (s : Shared) (v : Value), BindsTo s fd ⟨[v], []⟩ [("script", v)]) ∧ ∀ base : Heap, K.In base → base.Ns mainGlobals mg → FnOk l.prog w K mg base CX0 2 fa fd ["script"] (spLaw K) := by
  have e := hfa.symm.trans (PySem.W.mg_of X G a_law)
  cases e
  have F_value_at := fun_mk (st := s_value_at) l_value_at c_value_at k_value_at
  have b_value_at := F_value_at.binds (ps := ["poly", "n"]) fun _ _ _ _ _ _ us hl => match us, hl with | [_, _], _ => rfl
  have F_law_is_integer := fun_mk (st := s_law_is_integer) l_law_is_integer c_law_is_integer k_law_is_integer
  have b_law_is_integer := F_law_is_integer.binds (ps := ["found"]) fun _ _ _ _ _ _ us hl => match us, hl with | [_], _ => rfl
  have F_law_spring := fun_mk (st := s_law_spring) l_law_spring c_law_spring k_law_spring
  have b_law_spring := F_law_spring.binds (ps := ["cell"]) fun _ _ _ _ _ _ us hl => match us, hl with | [_], _ => rfl
  have F_law_draw := fun_mk (st := s_law_draw) l_law_draw c_law_draw k_law_draw
  have b_law_draw := F_law_draw.binds (ps := ["spring", "many"]) fun _ _ _ _ _ _ us hl => match us, hl with | [_, _], _ => rfl
  have F_law_value := fun_mk (st := s_law_value) l_law_value c_law_value k_law_value
  have b_law_value := F_law_value.binds (ps := ["terms", "at"]) fun _ _ _ _ _ _ us hl => match us, hl with | [_, _], _ => rfl
  have F_law := fun_mk (st := s_law) l_law c_law k_law
  have b_law := F_law.binds (ps := ["script"]) fun _ _ _ _ _ _ us hl => match us, hl with | [_], _ => rfl
  let T : Tx K mg := {  f_value_at := f_value_at, d_value_at := _, F_value_at := F_value_at, b_value_at := b_value_at, g_value_at := PySem.W.mg_of X G a_value_at, f_law_is_integer := f_law_is_integer, d_law_is_integer := _, F_law_is_integer := F_law_is_integer, b_law_is_integer := b_law_is_integer, g_law_is_integer := PySem.W.mg_of X G a_law_is_integer, f_law_spring := f_law_spring, d_law_spring := _, F_law_spring := F_law_spring, b_law_spring := b_law_spring, g_law_spring := PySem.W.mg_of X G a_law_spring, f_law_draw := f_law_draw, d_law_draw := _, F_law_draw := F_law_draw, b_law_draw := b_law_draw, g_law_draw := PySem.W.mg_of X G a_law_draw, f_law_value := f_law_value, d_law_value := _, F_law_value := F_law_value, b_law_value := b_law_value, g_law_value := PySem.W.mg_of X G a_law_value, f_law := fa, d_law := _, F_law := F_law, b_law := b_law, g_law := PySem.W.mg_of X G a_law, m_bool := PySem.W.mg_none_of X G z_bool, m_enumerate := PySem.W.mg_none_of X G z_enumerate, m_int := PySem.W.mg_none_of X G z_int, m_isinstance := PySem.W.mg_none_of X G z_isinstance, m_len := PySem.W.mg_none_of X G z_len, m_list := PySem.W.mg_none_of X G z_list, m_range := PySem.W.mg_none_of X G z_range, m_sum := PySem.W.mg_none_of X G z_sum }
  exact ⟨PySem.W.fnOf "law" "law" (defArgs s_law) (defBody s_law) (defScope s_law) .none kV_law dc_law pm_law an_law cd_law ct_law, fun s v => .of_eq rfl, fun base _ _ => ok_law T⟩
end K27
open PySem PySem.W PyProof.Rows
set_option maxHeartbeats 0 in
theorem PySem.Challenge.cw_plandays_k27_values_of_polynomials_holds : PySem.Challenge.rw_plandays_k27_values_of_polynomials.Holds := by
  w_on; o_law; k_head; (case hw => w_witness2)
  k_fill
  refine L2.walk_of (l := PySem.Challenge.rw_plandays_k27_values_of_polynomials) (n := 63) (k := 2) (x := "script") (CX := fun _ => L2.CX0) (sp := fun w => K27.spLaw _) rfl (by decide) rfl ⟨rfl, by decide, by decide⟩ (fun w h Y => PySem.W.kIn_of Y) ?F (fun _ _ a ns hl _ hS => ⟨a, ns, rfl, hS, hl, fun _ => rfl⟩) (fun _ _ _ _ _ h => h)
  case F =>
    intro w mg fa h KX G hmg
    refine' K27.all_mk KX G hmg ?a_value_at ?l_value_at ?c_value_at ?k_value_at ?a_law_is_integer ?l_law_is_integer ?c_law_is_integer ?k_law_is_integer ?a_law_spring ?l_law_spring ?c_law_spring ?k_law_spring ?a_law_draw ?l_law_draw ?c_law_draw ?k_law_draw ?a_law_value ?l_law_value ?c_law_value ?k_law_value ?a_law ?l_law ?c_law ?k_law ?z_bool ?z_enumerate ?z_int ?z_isinstance ?z_len ?z_list ?z_range ?z_sum
    (case a_value_at => k_is)
    (case l_value_at => k_is)
    (case c_value_at => k_is)
    (case k_value_at => k_is)
    (case a_law_is_integer => k_is)
    (case l_law_is_integer => k_is)
    (case c_law_is_integer => k_is)
    (case k_law_is_integer => k_is)
    (case a_law_spring => k_is)
    (case l_law_spring => k_is)
    (case c_law_spring => k_is)
    (case k_law_spring => k_is)
    (case a_law_draw => k_is)
    (case l_law_draw => k_is)
    (case c_law_draw => k_is)
    (case k_law_draw => k_is)
    (case a_law_value => k_is)
    (case l_law_value => k_is)
    (case c_law_value => k_is)
    (case k_law_value => k_is)
    (case a_law => k_is)
    (case l_law => k_is)
    (case c_law => k_is)
    (case k_law => k_is)
    (case z_bool => k_is)
    (case z_enumerate => k_is)
    (case z_int => k_is)
    (case z_isinstance => k_is)
    (case z_len => k_is)
    (case z_list => k_is)
    (case z_range => k_is)
    (case z_sum => k_is)

