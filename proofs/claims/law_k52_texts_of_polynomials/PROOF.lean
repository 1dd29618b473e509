import PyProof.Rows.All
import Wide.All
import OpenK.AllK
import Wide.FinOn
import HandS.ForMost
import HandS.Wide
import HandS.Gcd
import HandS.SetFor
import HandS.Walk
import HandS.FStr
import HandS.Text
import HandS.Style
import HandS.Conv
import HandS.More
import HandS.Property
import HandS.MakeKwOnly
import HandS.NoneIn
import HandS.OwnEq
import HandS.IsInst
import HandS.Codes
import HandS.Defaults
import KE.KMathGC
import Flt.Len
import PySem.Challenge.RW_plandays_k52_texts_of_polynomials
set_option Elab.async false
set_option linter.all false
set_option maxRecDepth 100000
namespace K52
open PySem
open PySem.Spec PyProof.Rows L2
def Sz (B : Nat) (r : List Int) : Prop := ∀ a ∈ r, a.natAbs < 2 ^ B
theorem Sz.mono {B C : Nat} {r : List Int} (h : Sz B r) (hl : B ≤ C) : Sz C r := fun a ha => Nat.lt_of_lt_of_le (h a ha) (Nat.pow_le_pow_right (by decide) hl)
theorem snoc_of {r : List Int} (h : r ≠ []) : ∃ s a, r = s ++ [a] := ⟨r.dropLast, r.getLast h, (List.dropLast_concat_getLast h).symm⟩
/-- the text of an entry -/
def trm (i : Nat) (a : Int) : Str := (Str.ofString (toString a) ++ Str.ofString "*C") ++ Str.ofString (toString (i : Int))
def trms (r : List Int) : Nat → List Str
  | 0 => []
  | n + 1 => trms r n ++ (match r[n]? with | some a => if a = 0 then [] else [trm n a] | none => [])
theorem trms_z {r : List Int} {n : Nat} (h : r[n]? = some 0) : trms r (n + 1) = trms r n := by
  show trms r n ++ _ = _
  rw [h]
  exact List.append_nil _
theorem trms_a {r : List Int} {n : Nat} {a : Int} (h : r[n]? = some a) (ha : a ≠ 0) : trms r (n + 1) = trms r n ++ [trm n a] := by
  show trms r n ++ _ = _
  rw [h]
  simp [ha]
def polyT (r : List Int) : Str := if (trms r r.length).isEmpty = true then Str.ofString "0" else Txt.join (Str.ofString " + ") (trms r r.length)
/-- no zero at the end -/
def Canon (r : List Int) : Prop := r = [] ∨ ∃ s a, r = s ++ [a] ∧ a ≠ 0
theorem polyT_nil : polyT [] = Str.ofString "0" := rfl
theorem trms_ne {s : List Int} {a : Int} (ha : a ≠ 0) : (trms (s ++ [a]) (s ++ [a]).length).isEmpty = false := by
  have e : (s ++ [a]).length = s.length + 1 := by simp
  rw [e, trms_a (a := a) (by simp) ha]
  simp
theorem polyT_ne {s : List Int} {a : Int} (ha : a ≠ 0) : polyT (s ++ [a]) = Txt.join (Str.ofString " + ") (trms (s ++ [a]) (s ++ [a]).length) := by
  unfold polyT
  rw [trms_ne ha]
  rfl
theorem log_sz {B : Nat} {a : Int} (h : a.natAbs < 2 ^ B) (h0 : 0 < B) (h1 : B ≤ 1900) : a.natAbs.log2 < 1920 := by
  have h2 : a.natAbs.log2 < B := PySem.Flt.log2_lt_of h0 h
  omega
theorem log_ix {i : Nat} (h : i < 1000) : ((i : Int)).natAbs.log2 < 1920 := log_sz (B := 10) (by omega) (by decide) (by decide)
theorem len_int {a : Int} (h : a.natAbs.log2 < 1920) : (Str.ofString (toString a)).length ≤ 1921 := PyProof.Rows.int_text_len_1921 h
theorem len_star : (Str.ofString "*C").length = 2 := by decide +kernel
theorem len_trm {i : Nat} {a : Int} (h : a.natAbs.log2 < 1920) (hi : i < 1000) : (trm i a).length ≤ 4000 := by
  unfold trm
  rw [Str.length_append, Str.length_append, len_star]
  have h1 := len_int h
  have h2 := len_int (log_ix hi)
  omega
theorem trms_len {r : List Int} (h : Sz 1000 r) : ∀ n : Nat, n ≤ 1000 → (trms r n).length ≤ n ∧ ((trms r n).map (·.length)).sum ≤ n * 4000
  | 0, _ => ⟨Nat.le_refl _, Nat.le_refl _⟩
  | n + 1, hn => by
    obtain ⟨h1, h2⟩ := trms_len h n (by omega)
    cases e : r[n]? with
    | none =>
      have : trms r (n + 1) = trms r n := by
        show trms r n ++ _ = _
        rw [e]; exact List.append_nil _
      rw [this]; omega
    | some a =>
      by_cases ha : a = 0
      · subst ha
        rw [trms_z e]; omega
      · have hl := log_sz (h a (List.mem_of_getElem? e)) (by decide) (by decide)
        have h3 := len_trm (i := n) hl (by omega)
        rw [trms_a e ha, List.length_append, List.map_append, List.sum_append]
        have e1 : ([trm n a].map (·.length)).sum = (trm n a).length := by simp
        have e2 : [trm n a].length = 1 := rfl
        rw [e1, e2]
        omega
theorem trms_room {r : List Int} (h : Sz 1000 r) (hl : r.length ≤ 200) : ((trms r r.length).map (·.length)).sum + (trms r r.length).length * (Str.ofString " + ").length ≤ 16777216 := by
  obtain ⟨h1, h2⟩ := trms_len h r.length (by omega)
  have e : (Str.ofString " + ").length = 3 := by decide +kernel
  rw [e]
  omega
theorem same_upd {H : Hp} {p : Addr} {o : HO} (h : H p = none) : Same H (upd H p o) := fun b x e => by
  rw [upd_ne (ne_of_none e h)]
  exact e
theorem Same.tup {K : PySem.W.Frag} {H H' : Hp} {a : Addr} {xs : List V} (e : Same H H') (h : SqT K H a xs) : SqT K H' a xs := by
  rcases h with (h | ⟨o, h⟩) | h
  · exact .inl (.inl (e _ _ h))
  · exact .inl (.inr ⟨o, e _ _ h⟩)
  · exact .inr h
theorem ixN_nat {n j : Nat} (hj : j < n) : ixN n (j : Int) = some j := by
  unfold ixN
  rw [if_pos (by omega), if_pos (by omega), Int.toNat_natCast]
theorem iteD {c A B : Prop} [Decidable c] (hc : c) (h : A) : if decide c = true then A else B := by
  rw [decide_eq_true hc]
  exact iteT h
theorem iteND {c A B : Prop} [Decidable c] (hc : ¬ c) (h : B) : if decide c = true then A else B := by
  rw [decide_eq_false hc]
  exact iteF h
theorem iteB {b : Bool} {A B : Prop} (hb : b = true) (h : A) : if b = true then A else B := by
  rw [hb]
  exact iteT h
theorem iteNB {b : Bool} {A B : Prop} (hb : b = false) (h : B) : if b = true then A else B := by
  rw [hb]
  exact iteF h
theorem for_enum {K : PySem.W.Frag} {a : Addr} {xs : List V} {g : TG} {tb : TS} {D : Ends} {σ : L2.St} {H : Hp} (Pv : Nat → L2.St → Hp → Prop) (h0 : Pv 0 σ H) (hl : ∀ i σ H, i ≤ xs.length → Pv i σ H → SqL K H a xs)
    (hs : ∀ i x σ H T, xs[i]? = some x → Pv i σ H → H T = none → g (.ref T) σ (upd H T (.tup [.int (i : Nat), x])) fun σ2 H2 => tb { D with nx := Pv (i + 1), ct := Pv (i + 1), bk := D.nx } σ2 H2) (hd : ∀ σ H, Pv xs.length σ H → D.nx σ H) :
    ∃ W : Nat → Nat → L2.St → Hp → Prop, (∃ m, W 0 m σ H) ∧ ∀ i m σ H, W i m σ H →
      ((Ite K a).stop i H ∧ D.nx σ H) ∨ ((Ite K a).go i H ∧ ∃ N : L2.St → Hp → Prop, (∀ σ' H', N σ' H' → ∃ m', m' < m ∧ W (i + 1) m' σ' H') ∧ ∀ x H', (Ite K a).yld i H x H' → g x σ H' fun σ2 H2 => tb { D with nx := N, ct := N, bk := D.nx } σ2 H2) := by
  refine ⟨fun i m σ H => m = xs.length - i ∧ i ≤ xs.length ∧ Pv i σ H, ⟨_, rfl, Nat.zero_le _, h0⟩, ?_⟩
  rintro i m σ H ⟨rfl, hi, p⟩
  have q := hl i σ H hi p
  by_cases hlt : i < xs.length
  · refine .inr ⟨⟨xs, xs[i], q, List.getElem?_eq_getElem hlt⟩, Pv (i + 1), fun σ' H' p' => ⟨xs.length - (i + 1), by omega, rfl, hlt, p'⟩, fun v H' y => ?_⟩
    obtain ⟨T, x, e1, hT, e2, hx⟩ := y
    subst e1 e2
    exact hs i x σ H T (hx xs q) p hT
  · have e : i = xs.length := by omega
    subst e
    exact .inl ⟨⟨xs, q, Nat.le_refl _⟩, hd σ H p⟩
/-! ### range(n) as a value, and walked -/
theorem cr_range1 {X : Cx} : CallR X (.type "range") (fun vs H Q => ∃ j, vs = [V.int j] ∧ ∀ p, H p = none → Q (.ref p) (upd H p (.rng 0 j))) := by
  intro pins s σ H vs us Q I r h
  obtain ⟨j, rfl, q⟩ := h
  obtain ⟨u1, rfl, rj⟩ := vals1 r
  obtain ⟨t, rfl⟩ := rj
  refine call_range_1 ⟨.ref s.heap.objs.size, upd H s.heap.objs.size (.rng 0 j), I.laid (t' := s.toks + 1 + 1) (fun b o e => Heap.get?_push_of_some _ e) (Nat.le_refl _) ?_, rfl, q _ (I.hok.fresh (Nat.le_refl _))⟩
  exact ⟨_, _, _, Heap.get?_push_size _ rfl⟩
def iRngV (tl : TE) : TI := fun σ H R => tl σ H fun x H1 => ∃ (a : Addr) (lo hi : Int), x = .ref a ∧ H1 a = some (.rng lo hi) ∧ (-(2 ^ 62) ≤ lo ∧ lo < 2 ^ 62 ∧ -(2 ^ 62) ≤ hi ∧ hi < 2 ^ 62) ∧ R (Itr lo (hi - lo).toNat) H1
theorem pi_rngV {X : Cx} {tg : Expr} {l : Expr} {tl : TE} (hl : PE X l tl) : PI X tg l (iRngV tl) := by
  refine ⟨fun pins s σ H R I h => ?_⟩
  refine thn (hl.run pins s σ H _ I h) fun v s1 ⟨x, H1, I1, r1, q1⟩ => ?_
  obtain ⟨a, lo, hi, e, hr, ⟨h1, h2, h3, h4⟩, q⟩ := q1
  subst e
  cases r1
  obtain ⟨t, u, w, ho⟩ := I1.hok a _ hr
  refine wpAny_pyIter_range (show IsRange s1.heap a lo hi 1 t u w from ho) (small_one h1 h2 h3 h4) ?_
  refine ⟨s1.heap.objs.size, [s1.heap.objs.size], _, _, H1, rfl, I1.kept (t' := s1.toks) fun b o e => Heap.get?_push_of_some _ e, turn_range _ lo (hi - lo).toNat, ?_, fun b hb => ?_, q⟩
  · have e1 : lo + ((0 : Nat) : Int) * 1 = lo := by simp
    have e2 : (((hi - lo).toNat : Nat) : Int) - ((0 : Nat) : Int) = Builtin.Range.rangeSize lo hi 1 := by rw [rangeSize_one]; split <;> omega
    show IsRangeIter _ _ (lo + ((0 : Nat) : Int) * 1) ((((hi - lo).toNat : Nat) : Int) - ((0 : Nat) : Int)) 1
    rw [e1, e2]
    exact Heap.get?_push_size _ rfl
  · have e : b = s1.heap.objs.size := by simpa using hb
    subst e
    exact I1.fpOk (Nat.le_refl _) (I1.hok.fresh (Nat.le_refl _))
/-- a tuple as a comprehension's target -/
theorem pg_tupK {X : Cx} {K : PySem.W.Frag} (hK : X.K = K) {es : List Expr} {k : Nat} {pos : Pos} {t : TGs} {n : Nat} (hc : X.calm = true) (h : PGs X es t)
    (hn : (assignEach es X.env).length = n := by rfl) (hst : (assignEach es X.env).findIdx? (·.1) = none := by rfl) : PG X (.Tuple es k pos) (gTup K n t) := by
  subst hK
  exact pg_tup hc h hn hst
/-- an f-string's reading, named -/
def tJoined (ts : List TE) : TE := fun σ H Q => tJs ts Str.empty σ H fun out H1 => Q (.str out) H1
theorem pe_joinedN {X : Cx} {v1 v2 : Expr} {rest : List Expr} {ts : List TE} {pos : Pos} (h : PJ X (v1 :: v2 :: rest) ts) : PE X (.JoinedStr (v1 :: v2 :: rest) pos) (tJoined ts) := pe_joined h
theorem pe_callN0 {X : Cx} {CX : CXT} {k : Nat} {f : Addr} {fd : FuncData} {ps ks : List Str} {sp : Sp} {E : XK} {x : Str} {p pos : Pos} {kws : List Keyword} {tk : TA} {g : List Value → List Value → List Value} {gV : List V → List V → List V}
    (F : FnOk X.prog X.w X.K X.mg X.base CX k f fd ps sp) (hr : Room k X.A) (hg : Gl X x) (hm : X.mg x = some (.ref f)) (kp : PySem.W.keepIn X.K (.ref f) = true) (hb : KBn X.K fd ps 0 ks g gV) (hx : Passes CX X E) (hkw : PK X kws tk)
    (h1 : (backToKw pos (keywordEach kws X.env)).all (·.1.isSome) = true := by rfl) (h2 : (backToKw pos (keywordEach kws X.env)).filterMap (·.1) = ks := by rfl) (h3 : (x == ("__debug__" : Str)) = false := by decide)
    (h4 : ((backTo pos (starEach [] X.env)).any (·.1) || (backToKw pos (keywordEach kws X.env)).any (·.1.isNone)) = false := by rfl) :
    PE X (.Call (.Name x p) [] kws pos) (tCallN 0 ks.length sp gV E tNil tk) := by
  refine ⟨fun pins s σ H Q I h => wpAny_Call_Name_kw (ld_glob I hg hm ?_ h3)⟩
  refine PySem.W.callWith_KW0 (h₀ := X.base) I.ok.mod.kin kp h1 ?_ h4
  refine thn (hkw.run pos pins s σ H _ I h) fun ws s2 ⟨zs, H2, I2, rz, l1, l2, q2⟩ => ⟨I2.kIn, ?_⟩
  rw [h2]
  exact run_fnN (us := []) (vs := []) F hr hb hx I2 .nil rz rfl l2 q2
theorem dp_ints {K : PySem.W.Frag} {H : Hp} : ∀ {ns : List Int}, DpAll K H (ns.map V.int) (ns.map PyData.int)
  | [] => .nil
  | _ :: _ => .cons (.int _) dp_ints
theorem lay_ints : ∀ (ns : List Int), PyData.canLayAll0 (ns.map PyData.int) = true
  | [] => rfl
  | _ :: r => by
    show (true && PyData.canLayAll0 (r.map PyData.int)) = true
    rw [lay_ints r]; rfl
theorem depth_ints : ∀ (ns : List Int), PyData.depthAll (ns.map PyData.int) ≤ 1
  | [] => by simp [PyData.depthAll]
  | a :: r => by
    have := depth_ints r
    simp only [List.map_cons, PyData.depthAll, PyData.depth]
    omega
theorem list_ok (ns : List Int) : SeqAt.shaped (.list (ns.map PyData.int)) = true := by
  unfold SeqAt.shaped
  rw [Bool.and_eq_true]
  have h := depth_ints ns
  exact ⟨lay_ints ns, decide_eq_true (by simp only [PyData.depth]; omega)⟩
def rList (K : PySem.W.Frag) : List V → Hp → VK → Prop := fun xs H Q => ∃ p ys, xs = [.ref p] ∧ (SqL K H p ys ∨ SqT K H p ys) ∧ ∀ l, H l = none → Q (.ref l) (upd H l (.lst ys))
def rLen (K : PySem.W.Frag) : List V → Hp → VK → Prop := fun xs H Q => ∃ p ys, xs = [.ref p] ∧ (SqL K H p ys ∨ SqT K H p ys) ∧ Q (.int ys.length) H
theorem pe_fldK {X : Cx} {K : PySem.W.Frag} (hK : X.K = K) {e : Expr} {f : Str} {pos : Pos} {ta : TE} (he : PE X e ta) (hb : attributeBase e f X.env (eval e X.env) = eval e X.env) : PE X (.Attribute e f pos) (tFld K ta f) := by
  subst hK
  exact pe_fld he hb
theorem pe_bmK {X : Cx} {K : PySem.W.Frag} (hK : X.K = K) {o e : Expr} {es : List Expr} {to : TE} {t : TA} {name : Str} {apos cpos : Pos} {T id : String} {r : V → List V → Hp → VK → Prop}
    (pa : PlainAttrs T) (slot : Slot T name id) (ty : typeOf (.builtin id) = pure (.type "method_descriptor")) (hm : MtR X id r) (ho : PE X o to) (ha : PA X (e :: es) t)
    (h1 : attributeBase o name X.env (eval o X.env) = eval o X.env := by rfl)
    (h2 : ((backTo cpos (starEach (e :: es) X.env)).all (fun x => !x.1) && (backToKw cpos (keywordEach [] X.env)).all (fun x => x.1.isSome) && decide ((e :: es).length + ([] : List Keyword).length + (if ([] : List Keyword).isEmpty then 0 else 1) < 30)) = true := by rfl)
    (h3 : (apos.endLine == cpos.line) = true := by rfl) (h4 : starEach (e :: es) X.env = (false, eval e X.env) :: starEach es X.env := by rfl) (h5 : (backTo cpos (starEach es X.env)).any (·.1) = false := by rfl) :
    PE X (.Call (.Attribute o name apos) (e :: es) [] cpos) (tBM K T r to t) := by
  subst hK
  exact pe_bm pa slot ty hm ho ha h1 h2 h3 h4 h5
def topS (i : Nat) : Stmt := PySem.Challenge.pw_plandays_k52_texts_of_polynomials.main.body.getD i (.Pass ⟨0, 0, 0, 0⟩)
abbrev s_show_polynomial : Stmt := topS 1
theorem sc_show_polynomial : FnScope ["poly", "index", "entry"] ["poly"] (defScope s_show_polynomial) := ⟨rfl, rfl, rfl, by decide +kernel, rfl, by decide +kernel, by decide +kernel⟩
abbrev s_law_deck : Stmt := topS 3
theorem sc_law_deck : FnScope ["script", "mixed", "cell", "great"] ["script"] (defScope s_law_deck) := ⟨rfl, rfl, rfl, by decide +kernel, rfl, by decide +kernel, by decide +kernel⟩
abbrev s_law_draw : Stmt := topS 4
theorem sc_law_draw : FnScope ["deck", "many", "one"] ["deck", "many"] (defScope s_law_draw) := ⟨rfl, rfl, rfl, by decide +kernel, rfl, by decide +kernel, by decide +kernel⟩
abbrev s_law_great : Stmt := topS 5
theorem sc_law_great : FnScope ["deck", "many", "one", "k"] ["deck", "many"] (defScope s_law_great) := ⟨rfl, rfl, rfl, by decide +kernel, rfl, by decide +kernel, by decide +kernel⟩
abbrev s_law_poly : Stmt := topS 6
theorem sc_law_poly : FnScope ["deck", "most", "entries", "top", "k"] ["deck", "most"] (defScope s_law_poly) := ⟨rfl, rfl, rfl, by decide +kernel, rfl, by decide +kernel, by decide +kernel⟩
abbrev s_law_poly_text : Stmt := topS 7
theorem sc_law_poly_text : FnScope ["entries", "parts", "at", "entry"] ["entries"] (defScope s_law_poly_text) := ⟨rfl, rfl, rfl, by decide +kernel, rfl, by decide +kernel, by decide +kernel⟩
abbrev s_law_order : Stmt := topS 8
theorem sc_law_order : FnScope ["deck", "many", "left", "k"] ["deck", "many"] (defScope s_law_order) := ⟨rfl, rfl, rfl, by decide +kernel, rfl, by decide +kernel, by decide +kernel⟩
abbrev s_law : Stmt := topS 9
theorem sc_law : FnScope ["script", "deck", "rows", "at", "handed", "line", "k", "entry"] ["script"] (defScope s_law) := ⟨rfl, rfl, rfl, by decide +kernel, rfl, by decide +kernel, by decide +kernel⟩
/-- what the top has written, as the walks ask it -/
structure Tx (K : PySem.W.Frag) (w : World) (mg : Str → Option Value) where
  f_show_polynomial : Addr
  d_show_polynomial : FuncData
  F_show_polynomial : Fun K "show_polynomial" "show_polynomial" s_show_polynomial f_show_polynomial d_show_polynomial
  b_show_polynomial : Binds K d_show_polynomial ["poly"] []
  g_show_polynomial : mg "show_polynomial" = some (.ref f_show_polynomial)
  f_law_deck : Addr
  d_law_deck : FuncData
  F_law_deck : Fun K "_law_deck" "_law_deck" s_law_deck f_law_deck d_law_deck
  b_law_deck : Binds K d_law_deck ["script"] []
  g_law_deck : mg "_law_deck" = some (.ref f_law_deck)
  f_law_draw : Addr
  d_law_draw : FuncData
  F_law_draw : Fun K "_law_draw" "_law_draw" s_law_draw f_law_draw d_law_draw
  b_law_draw : Binds K d_law_draw ["deck", "many"] []
  g_law_draw : mg "_law_draw" = some (.ref f_law_draw)
  f_law_great : Addr
  d_law_great : FuncData
  F_law_great : Fun K "_law_great" "_law_great" s_law_great f_law_great d_law_great
  b_law_great : Binds K d_law_great ["deck", "many"] []
  g_law_great : mg "_law_great" = some (.ref f_law_great)
  f_law_poly : Addr
  d_law_poly : FuncData
  F_law_poly : Fun K "_law_poly" "_law_poly" s_law_poly f_law_poly d_law_poly
  b_law_poly : Binds K d_law_poly ["deck", "most"] []
  g_law_poly : mg "_law_poly" = some (.ref f_law_poly)
  f_law_poly_text : Addr
  d_law_poly_text : FuncData
  F_law_poly_text : Fun K "_law_poly_text" "_law_poly_text" s_law_poly_text f_law_poly_text d_law_poly_text
  b_law_poly_text : Binds K d_law_poly_text ["entries"] []
  g_law_poly_text : mg "_law_poly_text" = some (.ref f_law_poly_text)
  f_law_order : Addr
  d_law_order : FuncData
  F_law_order : Fun K "_law_order" "_law_order" s_law_order f_law_order d_law_order
  b_law_order : Binds K d_law_order ["deck", "many"] []
  g_law_order : mg "_law_order" = some (.ref f_law_order)
  f_law : Addr
  d_law : FuncData
  F_law : Fun K "law" "law" s_law f_law d_law
  b_law : Binds K d_law ["script"] []
  g_law : mg "law" = some (.ref f_law)
  m_enumerate : mg "enumerate" = none
  m_int : mg "int" = none
  m_isinstance : mg "isinstance" = none
  m_len : mg "len" = none
  m_list : mg "list" = none
  m_range : mg "range" = none
  m_str : mg "str" = none
section
variable {P : Program} {w : World} {K : PySem.W.Frag} {mg : Str → Option Value} {base : Heap}
/-! ### the text of a polynomial -/
def sp_show (K : PySem.W.Frag) : Sp := fun vs H Q _ => ∃ (p : Addr) (r : List Int), vs = [.ref p] ∧ SqL K H p (r.map V.int) ∧ Sz 1000 r ∧ r.length ≤ 200 ∧ Canon r ∧ ∀ H', Same H H' → Q (.str (polyT r)) H'
theorem ok_show_polynomial (T : Tx K w mg) : FnOk P w K mg base CX0 1 T.f_show_polynomial T.d_show_polynomial ["poly"] (sp_show K) := by
  refine T.F_show_polynomial.ok sc_show_polynomial (fun vs H Q E h => ?_) (fun cdv A outer s H vs Q E hr h => ?_)
  · obtain ⟨p, r, rfl, _⟩ := h
    rfl
  · obtain ⟨p, r, rfl, hS, sz, hl, hc, k⟩ := h
    refine ⟨_,
    (pss_cons
      (ps_if (pt_not (pt_truth (pv 0) (by intro _; rfl)))
        (pss_one
          (ps_ret pe_str))
        pss_nil)
    (pss_one
      (ps_ret (pe_join pe_str (pe_lc (own := [("index", 1), ("entry", 2)]) (g := gTup K 2 (gCons (gName 1) (gCons (gName 2) gNil))) rfl sc_show_polynomial.nd (pi_enum (by rfl) T.m_enumerate (pa_cons (pv 0) pa_nil)) (blkOk_by (N := ["poly", "index", "entry"]) (sc := defScope s_show_polynomial) (own := [("index", 1), ("entry", 2)]) (by decide +kernel)) (fun _ _ _ _ _ => (pg_tupK (K := K) rfl (by rfl) (pgs_cons (pg_name (i := 1) sc_show_polynomial.nd rfl (.inl rfl)) (pgs_cons (pg_name (i := 2) sc_show_polynomial.nd rfl (.inl rfl)) pgs_nil)))) (fun _ _ _ _ _ => (pts_one (pt_cmpR op_ne (pv 2) pe_int (nomark _)))) (fun _ _ _ _ _ => (pe_joinedN (.cons (pe_fmt (pv 2)) (.cons pe_str (.cons (pe_fmt (pv 1)) .nil)))))))))), ?_⟩
    rcases hc with rfl | ⟨s, a, rfl, ha⟩
    · exact ⟨_, rfl, false, .inl ⟨_, hS, rfl⟩, k _ (Same.refl H)⟩
    refine ⟨_, rfl, true, .inl ⟨_, hS, by cases s <;> rfl⟩, ?_⟩
    have hroom := trms_room sz hl
    rw [polyT_ne ha] at k
    generalize s ++ [a] = r at *
    refine ⟨⟨_, rfl⟩, _, rfl, p, _, rfl, hS, fun D hD => ?_⟩
    refine lc_it (walk_enum (xs := r.map V.int)) (fun i H' => Same H H' ∧ H' D = some (.lst ((trms r i).map V.str))) ⟨same_upd hD, upd_same⟩ (fun i H' _ h => h.1.seq hS) ?_ ?_
    · rintro i x H1 H2 hi ⟨sm, eD⟩ ⟨U, v, y, rfl, hU, rfl, hv, hy⟩
      cases hv
      have hy : (r.map V.int)[i]? = some y := hy
      rw [List.getElem?_map] at hy
      obtain ⟨b, hb, rfl⟩ := Option.map_eq_some_iff.mp hy
      rw [List.length_map] at hi
      have s1 := sm.trans (same_upd (o := .tup [.int (i : Nat), .int b]) hU)
      have eD1 := same_upd (o := .tup [.int (i : Nat), .int b]) hU _ _ eD
      have lb := log_sz (sz b (List.mem_of_getElem? hb)) (by decide) (by decide)
      have li := log_ix (i := i) (by omega)
      have n1 := len_int lb
      have n2 := len_int li
      have big : 5000 ≤ sizeLine := by decide
      obtain ⟨c1, c2⟩ := trms_len sz i (by omega)
      refine ⟨U, _, rfl, .of upd_same, rfl, _, _, rfl, _, _, rfl, rfl, rfl, _, rfl, rfl, _, rfl, ite2 (fun c => ?_) (fun c => ⟨s1, ?_⟩)⟩
      · have hb0 : b ≠ 0 := fun z => by subst z; simp at c
        refine ⟨_, rfl, .inr ⟨b, rfl, lb, _, rfl, ?_, _, rfl, ?_, _, rfl, .inr ⟨(i : Nat), rfl, li, _, rfl, ?_, _, eD1, ?_, fun x o e => ?_, ?_⟩⟩⟩
        · rw [Str.empty_append]; omega
        · rw [Str.empty_append, Str.length_append, len_star]; omega
        · rw [Str.empty_append, Str.length_append, Str.length_append, len_star]; omega
        · rw [List.length_map]; exact small1000 (by omega)
        · rw [upd_ne (ne_of_none e hD)]; exact s1 x o e
        · rw [upd_same, trms_a hb hb0, List.map_append, Str.empty_append]; rfl
      · have hb0 : b = 0 := by
          simp at c
          exact c
        rw [hb0] at hb
        rw [trms_z hb]; exact eD1
    · rintro H1 ⟨sm, eD⟩
      rw [List.length_map] at eD
      exact ⟨_, D, _, rfl, rfl, .inl (.of eD), hroom, k _ sm⟩
theorem kb_show_polynomial (T : Tx K w mg) : KBn K T.d_show_polynomial ["poly"] 0 ["poly"] (fun _ ws => ws) (fun _ zs => zs) := by
  obtain ⟨oc, od, kV, doc, pm, an, cdv, ct, osl, e, _, _⟩ := T.F_show_polynomial.ex
  refine ⟨fun s us ws _ h1 h2 => ?_, fun _ r => r⟩
  rw [e]
  match us, ws, h1, h2 with
  | [], [_], _, _ => exact BindsTo.of_eq rfl
/-! ### the law's deck -/
def Deck (H : Hp) (d g : Addr) : Prop := ∃ (gs : List Int) (a m : Int), H d = some (.lst [.ref g, .int a, .int m]) ∧ H g = some (.lst (gs.map V.int)) ∧ gs.length ≤ 63 ∧ (∀ x ∈ gs, 0 ≤ x) ∧ 0 ≤ a ∧ 0 ≤ m ∧ m < 2147483648
theorem Deck.ne {H : Hp} {d g : Addr} (h : Deck H d g) : d ≠ g := by
  obtain ⟨gs, a, m, h1, h2, _⟩ := h
  intro e
  subst e
  rw [h1] at h2
  cases gs with
  | nil => cases h2
  | cons x r => injection h2 with h2; injection h2 with h2; injection h2 with h2; cases h2
/-- all but the deck is as it was -/
def Kd (d g : Addr) (H H' : Hp) : Prop := ∀ b o, H b = some o → b ≠ d → b ≠ g → H' b = some o
theorem Kd.refl {d g : Addr} (H : Hp) : Kd d g H H := fun _ _ h _ _ => h
theorem Kd.trans {d g : Addr} {H H1 H2 : Hp} (a : Kd d g H H1) (b : Kd d g H1 H2) : Kd d g H H2 := fun x o h n1 n2 => b x o (a x o h n1 n2) n1 n2
theorem Same.kd {d g : Addr} {H H' : Hp} (s : Same H H') : Kd d g H H' := fun b o h _ _ => s b o h
def sp_deck (K : PySem.W.Frag) : Sp := fun vs H Q _ => ∃ (a : Addr) (ns : List Int), vs = [.ref a] ∧ SqL K H a (ns.map V.int) ∧ ns.length ≤ 63 ∧ ∀ d g H', Same H H' → Deck H' d g → Q (.ref d) H'
theorem ok_law_deck (T : Tx K w mg) : FnOk P w K mg base CX0 1 T.f_law_deck T.d_law_deck ["script"] (sp_deck K) := by
  refine T.F_law_deck.ok sc_law_deck (fun vs H Q E h => ?_) (fun cdv A outer s H vs Q E hr h => ?_)
  · obtain ⟨a, ns, rfl, _⟩ := h
    rfl
  · obtain ⟨a, ns, rfl, hS, hl, k⟩ := h
    refine ⟨_,
    (pss_cons
      (ps_set (i := 1) sc_law_deck.nd rfl (.inl rfl) (pe_op op_add pe_int (pe_op op_mod (pe_callB call_len_seq (by rfl) T.m_len (by decide +kernel) (pa_cons (pv 0) pa_nil)) pe_int)))
    (pss_cons
      (ps_for PassesOwn.never rfl (pi_list (pv 0)) (pg_name (i := 2) sc_law_deck.nd rfl (.inl rfl))
        (pss_one
          (ps_set (i := 1) sc_law_deck.nd rfl (.inl rfl) (pe_op op_mod (pe_op op_add (pe_op op_add (pe_op op_mul (pv 1) pe_int) (pe_op op_mod (pe_callTy call_int1 (by rfl) T.m_int (by decide +kernel) (pa_cons (pv 2) pa_nil)) pe_int)) pe_int) pe_int))))
    (pss_cons
      (ps_setLc (i := 3) (own := [("cell", 2)]) (g := gName 2) rfl sc_law_deck.nd rfl rfl (sw_true rfl rfl rfl (by decide +kernel)) (pi_list (pv 0)) (blkOk_by (N := ["script", "mixed", "cell", "great"]) (sc := defScope s_law_deck) (own := [("cell", 2)]) (by decide +kernel)) (fun _ _ _ _ _ => (pg_name (i := 2) sc_law_deck.nd rfl (.inl rfl))) (fun _ _ _ _ _ => (pts_one (pt_cmpR op_ge (pv 2) (pe_op op_pow pe_int pe_int) (nomark _)))) (fun _ _ _ _ _ => (pe_op op_sub (pe_callTy call_int1 (by rfl) T.m_int (by decide +kernel) (pa_cons (pv 2) pa_nil)) (pe_op op_pow pe_int pe_int))))
    (pss_one
      (ps_ret (pe_lst (pa_cons (pe_revL (pv 3)) (pa_cons pe_int (pa_cons (pe_op op_add (pe_op op_mod (pv 1) pe_int) pe_int) pa_nil))))))))), ?_⟩
    refine ⟨_, rfl, a, _, rfl, .inl hS, _, _, rfl, rfl, (by show (0 : Int) < 1009; decide), _, _, rfl, rfl, ?_⟩
    have m0 : 0 ≤ 1 + ((ns.map V.int).length : Int) % 1009 := by omega
    have m1 : 1 + ((ns.map V.int).length : Int) % 1009 < 2147483648 := by omega
    refine ⟨_, rfl, a, rfl, ⟨_, hS⟩, for_list (xs := ns.map V.int) (fun i σ H' => H' = H ∧ ∃ m x2, 0 ≤ m ∧ m < 2147483648 ∧ σ = [some (.ref a), some (.int m), x2, none]) ⟨rfl, _, none, m0, m1, rfl⟩ (fun i σ H' _ h => by rw [h.1]; exact hS) ?_ ?_⟩
    · rintro i v σ H1 hi ⟨rfl, m, x2, m0, m1, rfl⟩
      rw [List.getElem?_map] at hi
      obtain ⟨c, _, rfl⟩ := Option.map_eq_some_iff.mp hi
      refine ⟨_, rfl, _, _, rfl, rfl, .inl ⟨by omega, by omega⟩, _, rfl, .inl ⟨_, rfl, _, _, rfl, rfl, (by show (0 : Int) < 2147483563; decide), _, _, rfl, rfl, _, _, rfl, rfl, _, _, rfl, rfl, (by show (0 : Int) < 2147483399; decide), rfl, _, _, Int.emod_nonneg _ (by decide), Int.lt_trans (Int.emod_lt_of_pos _ (by decide)) (by decide), rfl⟩⟩
    · rintro σ H1 ⟨rfl, m, x2, m0, m1, rfl⟩
      refine ⟨_, rfl, a, rfl, ⟨_, hS⟩, fun D hD => ?_⟩
      refine lc_list (xs := ns.map V.int) (fun i H' => ∃ gs : List Int, gs.length ≤ i ∧ (∀ x ∈ gs, 0 ≤ x) ∧ H' D = some (.lst (gs.map V.int)) ∧ Same H1 H') ?_ ?_ ?_ ?_
      · exact ⟨[], Nat.le_refl _, (fun _ h => absurd h List.not_mem_nil), upd_same, same_upd hD⟩
      · rintro i H' _ ⟨gs, _, _, _, sm⟩
        exact sm.seq hS
      · rintro i v H' hi ⟨gs, gl, g0, eD, sm⟩
        have hil := (List.getElem?_eq_some_iff.mp hi).1
        rw [List.length_map] at hil
        rw [List.getElem?_map] at hi
        obtain ⟨c, _, rfl⟩ := Option.map_eq_some_iff.mp hi
        refine ⟨rfl, _, rfl, _, _, rfl, rfl, ⟨by decide, by decide, by decide⟩, _, _, rfl, rfl, _, rfl, ite2 (fun h => ?_) (fun _ => ⟨gs, by omega, g0, eD, sm⟩)⟩
        have h1 : (10 : Int) ^ (18 : Int).toNat ≤ c := of_decide_eq_true h
        refine ⟨_, rfl, .inl ⟨_, rfl, _, _, rfl, rfl, ⟨by decide, by decide, by decide⟩, _, _, rfl, rfl, gs.map V.int, eD, ?_, gs ++ [c - (10 : Int) ^ (18 : Int).toNat], ?_, ?_, ?_, fun b o e => ?_⟩⟩
        · rw [List.length_map]; exact small1000 (by omega)
        · rw [List.length_append]; exact Nat.succ_le_succ gl
        · intro x hx
          rcases List.mem_append.mp hx with h | h
          · exact g0 x h
          · have := List.mem_singleton.mp h
            omega
        · rw [upd_same, List.map_append]; rfl
        · rw [upd_ne (ne_of_none e hD)]; exact sm b o e
      · rintro H2 ⟨gs, gl, g0, eD, sm⟩
        rw [List.length_map] at gl
        refine ⟨_, rfl, D, _, rfl, .of eD, fun g hg => ⟨_, rfl, _, _, rfl, rfl, (by show (0 : Int) < 2147483398; decide), _, _, rfl, rfl, (by show 3 ≤ sizeLine; decide), fun d hd => ?_⟩⟩
        refine k d g _ ((sm.trans (same_upd hg)).trans (same_upd hd)) ⟨gs.reverse, 0, m % 2147483398 + 1, upd_same, ?_, by rw [List.length_reverse]; omega, fun x hx => g0 x (List.mem_reverse.mp hx), by decide, by omega, by omega⟩
        rw [upd_ne (ne_of_none upd_same hd), upd_same, List.map_reverse]
def sp_draw : Sp := fun vs H Q _ => ∃ (d g : Addr) (n : Int), vs = [.ref d, .int n] ∧ Deck H d g ∧ 0 < n ∧ n.natAbs.log2 < 9000 ∧ ∀ r H', 0 ≤ r → r < n → Deck H' d g → Kd d g H H' → Q (.int r) H'
theorem small_log {m : Int} (h : m.natAbs < 1024) : m.natAbs.log2 < 9000 := by
  have h1 : m.natAbs.log2 < 10 := PySem.Flt.log2_lt_of (by decide) h
  omega
theorem ok_law_draw (T : Tx K w mg) : FnOk P w K mg base CX0 1 T.f_law_draw T.d_law_draw ["deck", "many"] sp_draw := by
  refine T.F_law_draw.ok sc_law_draw (fun vs H Q E h => ?_) (fun cdv A outer s H vs Q E hr h => ?_)
  · obtain ⟨d, g, n, rfl, _⟩ := h
    rfl
  · obtain ⟨d, g, n, rfl, hD, hn, hl, k⟩ := h
    refine ⟨_,
    (pss_cons
      (ps_while PassesOwn.never (PW.pt (pw_and (pt_cmpR op_lt (pe_ix ix_list (pv 0) pe_int (fun _ _ => rfl)) pe_int (nomark _)) (pw_and1 (pt_cmpR op_gt (pe_callB call_len_seq (by rfl) T.m_len (by decide +kernel) (pa_cons (pe_ix ix_list (pv 0) pe_int (fun _ _ => rfl)) pa_nil)) pe_int (nomark _)))))
        (pss_one
          (ps_asg (pe_bm0 PySem.F.plainAttrs_list PySem.F.slot_list_pop PySem.F.type_list_pop mt_pop (pe_ix ix_list (pv 0) pe_int (fun _ _ => rfl))) (pg_sub (pv 0) pe_int set_list))))
    (pss_cons
      (ps_if (pt_cmpR op_gt (pe_ix ix_list (pv 0) pe_int (fun _ _ => rfl)) pe_int (nomark _))
        (pss_cons
          (ps_set (i := 2) sc_law_draw.nd rfl (.inl rfl) (pe_op op_mod (pe_callTy call_int1 (by rfl) T.m_int (by decide +kernel) (pa_cons (pe_ix ix_list (pv 0) pe_int (fun _ _ => rfl)) pa_nil)) (pv 1)))
        (pss_cons
          (ps_asg (pe_op op_fdivW (pe_ix ix_list (pv 0) pe_int (fun _ _ => rfl)) (pv 1)) (pg_sub (pv 0) pe_int set_list))
        (pss_one
          (ps_ret (pv 2)))))
        pss_nil)
    (pss_cons
      (ps_asg (pe_op op_mod (pe_op op_mul (pe_ix ix_list (pv 0) pe_int (fun _ _ => rfl)) pe_int) pe_int) (pg_sub (pv 0) pe_int set_list))
    (pss_one
      (ps_ret (pe_op op_mod (pe_op op_fdiv (pe_op op_add (pe_op op_mod (pe_op op_mul (pe_ix ix_list (pv 0) pe_int (fun _ _ => rfl)) (pe_ix ix_list (pv 0) pe_int (fun _ _ => rfl))) pe_int) (pe_op op_fdiv (pe_ix ix_list (pv 0) pe_int (fun _ _ => rfl)) pe_int)) pe_int) (pv 1))))))), ?_⟩
    have dg := hD.ne
    obtain ⟨gs, a, m, hd, hg, gl, g0, a0, m0, m1⟩ := hD
    refine ⟨fun t σ H' => ∃ (gs : List Int) (a : Int), gs.length = t ∧ σ = [some (.ref d), some (.int n), none] ∧ H' d = some (.lst [.ref g, .int a, .int m]) ∧ H' g = some (.lst (gs.map V.int)) ∧ gs.length ≤ 63 ∧ (∀ x ∈ gs, 0 ≤ x) ∧ 0 ≤ a ∧ Kd d g H H',
      ⟨_, gs, a, rfl, rfl, hd, hg, gl, g0, a0, Kd.refl H⟩, ?_⟩
    clear hd hg gl g0 a0 gs a
    rintro t σ H1 ⟨gs, a, tl, rfl, hd, hg, gl, g0, a0, kd⟩
    refine ⟨_, rfl, d, _, _, _, rfl, rfl, .of hd, atI_nat (j := 1) rfl, _, _, rfl, rfl, _, rfl, ite2 (fun c1 => ?_) (fun c1 => ?_)⟩
    · refine ⟨_, rfl, d, _, _, _, rfl, rfl, .of hd, atI_nat (j := 0) rfl, g, _, rfl, .inl (.of hg), _, _, rfl, rfl, _, rfl, ite2 (fun c2 => ?_) (fun c2 => ?_)⟩
      · have c3 : 0 < gs.length := by
          have : (0 : Int) < ((gs.map V.int).length : Int) := of_decide_eq_true c2
          rw [List.length_map] at this
          omega
        have hz : gs[gs.length - 1]? = some gs[gs.length - 1] := List.getElem?_eq_getElem (by omega)
        have hm := List.mem_of_getElem? hz
        generalize gs[gs.length - 1] = z at hz hm
        refine ⟨fun σ' H' => ∃ (gs : List Int) (a : Int), gs.length < t ∧ σ' = [some (.ref d), some (.int n), none] ∧ H' d = some (.lst [.ref g, .int a, .int m]) ∧ H' g = some (.lst (gs.map V.int)) ∧ gs.length ≤ 63 ∧ (∀ x ∈ gs, 0 ≤ x) ∧ 0 ≤ a ∧ Kd d g H H',
          fun σ' H' ⟨gs, a, h1, h2⟩ => ⟨_, h1, gs, a, rfl, h2⟩, ?_⟩
        refine ⟨_, rfl, d, _, _, _, rfl, rfl, .of hd, atI_nat (j := 0) rfl, .inl ⟨rfl, _, .of hg⟩, g, gs.map V.int, V.int z, rfl, rfl, hg, ?_, _, rfl, d, [.ref g, .int a, .int m], _, 1, rfl, rfl, ?_, rfl, gs.dropLast, z, ?_, rfl, ?_, ?_, ?_, ?_, g0 z hm, fun b o e n1 n2 => ?_⟩
        · rw [List.length_map, List.getElem?_map, hz]; rfl
        · rw [upd_ne dg]; exact hd
        · rw [List.length_dropLast]; omega
        · rw [upd_same]; rfl
        · rw [upd_ne dg.symm, upd_same, List.map_dropLast]
        · rw [List.length_dropLast]; omega
        · exact fun x hx => g0 x (List.dropLast_subset gs hx)
        · rw [upd_ne n1, upd_ne n2]; exact kd b o e n1 n2
      · refine ⟨_, rfl, d, _, _, _, rfl, rfl, .of hd, atI_nat (j := 1) rfl, _, _, rfl, rfl, _, rfl, iteND (by have : a < 2 := of_decide_eq_true c1; omega) ?_⟩
        have bm : -(2 ^ 64) < m ∧ m < 2 ^ 64 := ⟨by omega, by omega⟩
        have b0 : 0 ≤ m * 48271 % 2147483647 := Int.emod_nonneg _ (by decide)
        have b1 : m * 48271 % 2147483647 < 2147483647 := Int.emod_lt_of_pos _ (by decide)
        have bn : -(2 ^ 64) < m * 48271 % 2147483647 ∧ m * 48271 % 2147483647 < 2 ^ 64 := ⟨by omega, by omega⟩
        refine ⟨_, rfl, d, _, _, _, rfl, rfl, .of hd, atI_nat (j := 2) rfl, _, _, rfl, rfl, .inl bm, _, _, rfl, rfl, (by show (0 : Int) < 2147483647; decide), _, rfl, d, [.ref g, .int a, .int m], _, 2, rfl, rfl, hd, rfl, ?_⟩
        have e2 : (upd H1 d (.lst ([V.ref g, V.int a, V.int m].set 2 (V.int (m * 48271 % 2147483647))))) d = some (.lst [V.ref g, V.int a, V.int (m * 48271 % 2147483647)]) := upd_same
        refine ⟨_, rfl, d, _, _, _, rfl, rfl, .of e2, atI_nat (j := 2) rfl, _, rfl, d, _, _, _, rfl, rfl, .of e2, atI_nat (j := 2) rfl, _, _, rfl, rfl, .inl bn, _, _, rfl, rfl, (by show (0 : Int) < 2147483629; decide), _, rfl, d, _, _, _, rfl, rfl, .of e2, atI_nat (j := 2) rfl, _, _, rfl, rfl, ⟨by decide, by decide⟩, _, _, rfl, rfl, _, _, rfl, rfl, ⟨by decide, by decide⟩, _, rfl, _, _, rfl, rfl, hn, ?_⟩
        refine k _ _ (Int.emod_nonneg _ (by omega)) (Int.emod_lt_of_pos _ hn) ⟨gs, a, m * 48271 % 2147483647, e2, ?_, gl, g0, a0, b0, by omega⟩ fun b o e n1 n2 => ?_
        · rw [upd_ne dg.symm]; exact hg
        · rw [upd_ne n1]; exact kd b o e n1 n2
    · have c2 : ¬ a < 2 := fun z => c1 (decide_eq_true z)
      refine ⟨_, rfl, d, _, _, _, rfl, rfl, .of hd, atI_nat (j := 1) rfl, _, _, rfl, rfl, _, rfl, iteD (by omega) ?_⟩
      refine ⟨_, rfl, d, _, _, _, rfl, rfl, .of hd, atI_nat (j := 1) rfl, .inl ⟨_, rfl, _, rfl, _, _, rfl, rfl, hn, ?_⟩⟩
      refine ⟨_, rfl, d, _, _, _, rfl, rfl, .of hd, atI_nat (j := 1) rfl, _, rfl, _, _, rfl, rfl, ⟨hn, hl⟩, _, rfl, d, [.ref g, .int a, .int m], _, 1, rfl, rfl, hd, rfl, ?_⟩
      refine ⟨_, rfl, k _ _ (Int.emod_nonneg _ (by omega)) (Int.emod_lt_of_pos _ hn) ⟨gs, a / n, m, upd_same, ?_, gl, g0, Int.ediv_nonneg a0 (by omega), m0, m1⟩ fun b o e n1 n2 => ?_⟩
      · rw [upd_ne dg.symm]; exact hg
      · rw [upd_ne n1]; exact kd b o e n1 n2
theorem Deck.same {H H' : Hp} {d g : Addr} (s : Same H H') (h : Deck H d g) : Deck H' d g := by
  obtain ⟨gs, a, m, h1, h2, h3⟩ := h
  exact ⟨gs, a, m, s _ _ h1, s _ _ h2, h3⟩
theorem Deck.at {H : Hp} {d g : Addr} (h : Deck H d g) : (∃ o, H d = some o) ∧ ∃ o, H g = some o := by
  obtain ⟨gs, a, m, h1, h2, h3⟩ := h
  exact ⟨⟨_, h1⟩, _, h2⟩
theorem Deck.new {H : Hp} {d g p : Addr} (h : Deck H d g) (hp : H p = none) : p ≠ d ∧ p ≠ g := by
  obtain ⟨⟨o, h1⟩, u, h2⟩ := h.at
  exact ⟨(ne_of_none h1 hp).symm, (ne_of_none h2 hp).symm⟩
theorem Kd.free {d g p : Addr} {H H' : Hp} (k : Kd d g H H') (h : H' p = none) (n1 : p ≠ d) (n2 : p ≠ g) : H p = none := by
  cases q : H p with
  | none => rfl
  | some o =>
    rw [k p o q n1 n2] at h
    cases h
/-! ### rules, data, orders -/
/-- tuples stand -/
def Tk (H H' : Hp) : Prop := ∀ b xs, H b = some (.tup xs) → H' b = some (.tup xs)
theorem Same.tk {H H' : Hp} (s : Same H H') : Tk H H' := fun b _ h => s b _ h
theorem Kd.tk {d g : Addr} {H H' : Hp} (k : Kd d g H H') (hD : Deck H d g) : Tk H H' := fun b xs h => by
  obtain ⟨gs, a, m, h1, h2, _⟩ := hD
  exact k b _ h (ne_of h h1 (by intro z; cases z)) (ne_of h h2 (by intro z; cases z))
theorem Tk.trans {H H1 H2 : Hp} (a : Tk H H1) (b : Tk H1 H2) : Tk H H2 := fun x xs h => b x xs (a x xs h)
theorem tk_mut {H : Hp} {p : Addr} {xs : List V} {o : HO} (h : H p = some (.lst xs)) : Tk H (upd H p o) := fun b ys e => by
  rw [upd_ne (ne_of e h (by intro z; cases z))]
  exact e
structure Std (H0 H' : Hp) (d g : Addr) : Prop where
  dk : Deck H' d g
  kd : Kd d g H0 H'
theorem Std.refl {H : Hp} {d g : Addr} (h : Deck H d g) : Std H H d g := ⟨h, Kd.refl H⟩
theorem Std.draw {H0 H1 H2 : Hp} {d g : Addr} (s : Std H0 H1 d g) (h : Deck H2 d g) (k : Kd d g H1 H2) : Std H0 H2 d g := ⟨h, s.kd.trans k⟩
theorem Std.trans {H0 H1 H2 : Hp} {d g : Addr} (s : Std H0 H1 d g) (t : Std H1 H2 d g) : Std H0 H2 d g := ⟨t.dk, s.kd.trans t.kd⟩
theorem Std.new {H0 H1 : Hp} {d g p : Addr} {o : HO} (s : Std H0 H1 d g) (hp : H1 p = none) : Std H0 (upd H1 p o) d g := ⟨s.dk.same (same_upd hp), s.kd.trans (Same.kd (same_upd hp))⟩
theorem Std.free {H0 H1 : Hp} {d g p : Addr} (s : Std H0 H1 d g) (hp : H1 p = none) : H0 p = none := s.kd.free hp (s.dk.new hp).1 (s.dk.new hp).2
theorem Std.mut {H0 H1 : Hp} {d g p : Addr} {o : HO} (s : Std H0 H1 d g) (hp : H0 p = none) (n1 : p ≠ d) (n2 : p ≠ g) : Std H0 (upd H1 p o) d g := by
  refine ⟨?_, fun b u e h1 h2 => ?_⟩
  · obtain ⟨gs, a, m, h1, h2, h3⟩ := s.dk
    exact ⟨gs, a, m, by rw [upd_ne n1.symm]; exact h1, by rw [upd_ne n2.symm]; exact h2, h3⟩
  · rw [upd_ne (ne_of_none e hp)]
    exact s.kd b u e h1 h2
/-- a list apart from the deck -/
structure Lat (H : Hp) (d g p : Addr) (xs : List V) : Prop where
  at_ : H p = some (.lst xs)
  nd : p ≠ d
  ng : p ≠ g
theorem Lat.keep {H H' : Hp} {d g p : Addr} {xs : List V} (h : Lat H d g p xs) (k : Kd d g H H') : Lat H' d g p xs := ⟨k _ _ h.at_ h.nd h.ng, h.nd, h.ng⟩
theorem Lat.new {H : Hp} {d g p : Addr} {xs : List V} (h : Deck H d g) (hp : H p = none) : Lat (upd H p (.lst xs)) d g p xs := ⟨upd_same, (h.new hp).1, (h.new hp).2⟩
def sp_great : Sp := fun vs H Q _ => ∃ (d g : Addr) (n : Int), vs = [.ref d, .int n] ∧ Deck H d g ∧ 0 < n ∧ ∀ r H', 0 ≤ r → r < n → Deck H' d g → Kd d g H H' → Q (.int r) H'
theorem ok_law_great (T : Tx K w mg) : FnOk P w K mg base CX0 2 T.f_law_great T.d_law_great ["deck", "many"] sp_great := by
  refine T.F_law_great.ok sc_law_great (fun vs H Q E h => ?_) (fun cdv A outer s H vs Q E hr h => ?_)
  · obtain ⟨d, g, n, rfl, _⟩ := h
    rfl
  · obtain ⟨d, g, n, rfl, hD, hn, k⟩ := h
    refine ⟨_,
    (pss_cons
      (ps_set (i := 2) sc_law_great.nd rfl (.inl rfl) pe_int)
    (pss_cons
      (ps_for PassesOwn.never rfl (pi_range1 (by rfl) T.m_range (pa_cons pe_int pa_nil)) (pg_name (i := 3) sc_law_great.nd rfl (.inl rfl))
        (pss_one
          (ps_set (i := 2) sc_law_great.nd rfl (.inl rfl) (pe_op op_add (pe_op op_mul (pv 2) pe_int) (pe_call (ok_law_draw T) hr (by rfl) T.g_law_draw T.F_law_draw.kp T.b_law_draw .nil pass0 (pa_cons (pv 0) (pa_cons pe_int pa_nil)))))))
    (pss_one
      (ps_ret (pe_op op_mod (pv 2) (pv 1)))))), ?_⟩
    refine ⟨7, rfl, by decide, by decide, for_range (n := 7) (fun i σ H' => ∃ (x : Int) (y : Option V), σ = [some (.ref d), some (.int n), some (.int x), y] ∧ Deck H' d g ∧ Kd d g H H') ⟨0, none, rfl, hD, Kd.refl H⟩ ?_ ?_⟩
    · rintro i σ H1 _ ⟨x, y, rfl, hD1, k1⟩
      exact ⟨_, rfl, _, _, rfl, rfl, .inr ⟨by decide, by decide⟩, _, rfl, d, g, 2147483647, rfl, hD1, by decide, by decide +kernel, fun r H2 r0 r1 hD2 k2 => ⟨_, _, rfl, rfl, _, _, rfl, hD2, k1.trans k2⟩⟩
    · rintro σ H1 ⟨x, y, rfl, hD1, k1⟩
      exact ⟨_, rfl, _, rfl, _, _, rfl, rfl, hn, k _ _ (Int.emod_nonneg _ (by omega)) (Int.emod_lt_of_pos _ hn) hD1 k1⟩
def sp_order : Sp := fun vs H Q _ => ∃ (d g : Addr) (n : Nat), vs = [.ref d, .int n] ∧ Deck H d g ∧ n ≤ 1000 ∧
  ∀ (p : Addr) (os : List Int) (H' : Hp), Std H H' d g → H p = none → H' p = some (.lst (os.map V.int)) → p ≠ d → p ≠ g → (∀ o ∈ os, 0 ≤ o ∧ o < n) → os.length = n → os.Nodup → Q (.ref p) H'
theorem erase_map : ∀ (l : List Int) (j : Nat), (l.map V.int).eraseIdx j = (l.eraseIdx j).map V.int
  | [], _ => rfl
  | _ :: _, 0 => rfl
  | a :: r, j + 1 => by
    show V.int a :: (r.map V.int).eraseIdx j = V.int a :: (r.eraseIdx j).map V.int
    rw [erase_map r j]
def rng (n : Nat) : List Int := (List.range n).map Int.ofNat
theorem rng_v (n : Nat) : rgV 0 (n : Int) = (rng n).map V.int := by
  unfold rgV rng
  rw [List.map_map, show ((n : Int) - 0).toNat = n by omega]
  refine List.map_congr_left fun i _ => ?_
  show V.int (0 + (i : Int)) = V.int (i : Int)
  rw [Int.zero_add]
theorem rng_in {n : Nat} {o : Int} (h : o ∈ rng n) : 0 ≤ o ∧ o < n := by
  obtain ⟨i, hi, rfl⟩ := List.mem_map.mp h
  have := List.mem_range.mp hi
  have e : Int.ofNat i = (i : Int) := rfl
  omega
theorem rng_nd (n : Nat) : (rng n).Nodup := by
  unfold rng List.Nodup
  rw [List.pairwise_map]
  exact (List.nodup_range (n := n)).imp fun h z => h (Int.ofNat.inj z)
theorem rng_len (n : Nat) : (rng n).length = n := by
  unfold rng
  rw [List.length_map, List.length_range]
theorem log20 {m : Int} (h : m.natAbs < 1048576) : m.natAbs.log2 < 9000 := by
  have h1 : m.natAbs.log2 < 20 := PySem.Flt.log2_lt_of (by decide) h
  omega
theorem perm_erase : ∀ (l : List Int) (j : Nat) (h : j < l.length), l.Perm (l[j] :: l.eraseIdx j)
  | a :: r, 0, _ => List.Perm.refl _
  | a :: r, j + 1, h => by
    have ih := perm_erase r j (Nat.lt_of_succ_lt_succ h)
    exact (List.Perm.cons a ih).trans (List.Perm.swap _ _ _)
theorem ok_law_order (T : Tx K w mg) : FnOk P w K mg base CX0 2 T.f_law_order T.d_law_order ["deck", "many"] sp_order := by
  refine T.F_law_order.ok sc_law_order (fun vs H Q E h => ?_) (fun cdv A outer s H vs Q E hr h => ?_)
  · obtain ⟨d, g, n, rfl, _⟩ := h
    rfl
  · obtain ⟨d, g, n, rfl, hD, hn, k⟩ := h
    refine ⟨_,
    (pss_cons
      (ps_set (i := 2) sc_law_order.nd rfl (.inr rfl) (pe_listRg rfl (by rfl) T.m_list (prg_1 (by rfl) T.m_range (pv 1))))
    (pss_one
      (ps_ret (pe_lc (own := [("k", 3)]) (g := gName 3) rfl sc_law_order.nd (pi_range1 (by rfl) T.m_range (pa_cons (pv 1) pa_nil)) (blkOk_by (N := ["deck", "many", "left", "k"]) (sc := defScope s_law_order) (own := [("k", 3)]) (by decide +kernel)) (fun _ _ _ _ _ => (pg_name (i := 3) sc_law_order.nd rfl (.inl rfl))) (fun _ _ _ _ _ => pts_nil) (fun _ _ _ _ _ => (pe_bmK (K := K) rfl PySem.F.plainAttrs_list PySem.F.slot_list_pop PySem.F.type_list_pop mt_popAt (pv 2) (pa_cons (pe_call (ok_law_draw T) hr (by rfl) T.g_law_draw T.F_law_draw.kp T.b_law_draw .nil pass0 (pa_cons (pv 0) (pa_cons (pe_callB (id := "len") (r := rLen K) call_len_seq (by rfl) T.m_len (by decide +kernel) (pa_cons (pv 2) pa_nil)) pa_nil))) pa_nil))))))), ?_⟩
    refine ⟨_, rfl, _, rfl, ?_, fun L hL => ?_⟩
    · exact RgOk.of_le (by omega) (by omega) (by omega) (by omega)
    rw [rng_v]
    have dL := hD.new hL
    have s1 : Std H (upd H L (.lst ((rng n).map V.int))) d g := (Std.refl hD).new hL
    have e1 : (upd H L (.lst ((rng n).map V.int))) L = some (.lst ((rng n).map V.int)) := upd_same
    generalize upd H L (.lst ((rng n).map V.int)) = H1 at s1 e1
    refine ⟨_, rfl, _, rfl, by omega, by omega, fun D hDn => ?_⟩
    have dD := s1.dk.new hDn
    have LD : L ≠ D := ne_of_none e1 hDn
    have fD := s1.free hDn
    refine lc_range (lo := 0) (n := ((n : Int)).toNat) (fun i H' => ∃ os ls : List Int, Std H H' d g ∧ H' L = some (.lst (ls.map V.int)) ∧ H' D = some (.lst (os.map V.int)) ∧ (os ++ ls).Nodup ∧ (∀ o ∈ os ++ ls, 0 ≤ o ∧ o < n) ∧ os.length = i ∧ ls.length + i = n) ?_ ?_ ?_
    · exact ⟨[], rng n, s1.new hDn, by rw [upd_ne LD]; exact e1, upd_same, rng_nd n, fun o ho => rng_in ho, rfl, rng_len n⟩
    · rintro i H2 hi ⟨os, ls, s2, eL, eD, nd, hin, ol, ll⟩
      have hi2 : i < n := by
        have : i < ((n : Int)).toNat := hi
        omega
      refine ⟨rfl, _, rfl, .inl ⟨rfl, _, .of eL⟩, _, rfl, _, rfl, L, _, rfl, .inl (.of eL), d, g, _, rfl, s2.dk, ?_, ?_, fun r H3 r0 r1 hD3 k3 => ?_⟩
      · show (0 : Int) < ((ls.map V.int).length : Int)
        rw [List.length_map]; omega
      · refine log20 ?_
        show (((ls.map V.int).length : Nat) : Int).natAbs < 1048576
        rw [List.length_map]; omega
      have r2 : r < ((ls.map V.int).length : Int) := r1
      rw [List.length_map] at r2
      obtain ⟨j, rfl⟩ := Int.eq_ofNat_of_zero_le r0
      have hj : j < ls.length := by omega
      have s3 := s2.draw hD3 k3
      have eL3 := k3 _ _ eL dL.1 dL.2
      have eD3 := k3 _ _ eD dD.1 dD.2
      have pm : (os ++ ls).Perm ((os ++ [ls[j]]) ++ ls.eraseIdx j) := by
        rw [List.append_assoc]
        exact List.Perm.append_left os (perm_erase ls j hj)
      refine ⟨L, ls.map V.int, j, j, V.int ls[j], rfl, rfl, eL3, by omega, by omega, (ixN_seq (ixN_nat (by rw [List.length_map]; exact hj))).1, by rw [List.getElem?_map, List.getElem?_eq_getElem hj]; rfl, os.map V.int, ?_, ?_, os ++ [ls[j]], ls.eraseIdx j, (s3.mut hL dL.1 dL.2).mut fD dD.1 dD.2, ?_, ?_, pm.nodup_iff.mp nd, fun o ho => hin o (pm.mem_iff.mpr ho), ?_, ?_⟩
      · rw [upd_ne LD.symm]; exact eD3
      · rw [List.length_map, ol]; exact small1000 (by omega)
      · rw [upd_ne LD, upd_same, erase_map]
      · rw [upd_same, List.map_append]; rfl
      · rw [List.length_append, ol]; rfl
      · rw [List.length_eraseIdx_of_lt hj]; omega
    · rintro H2 ⟨os, ls, s2, eL, eD, nd, hin, ol, ll⟩
      exact k D os H2 s2 fD eD dD.1 dD.2 (fun o ho => hin o (List.mem_append_left _ ho)) (by rw [ol]; omega) (List.nodup_append.mp nd).1
/-! ### the law's polynomials and their texts -/
theorem pickI {ms : List Int} {w : Int} (h0 : 0 ≤ w) (h1 : w < ms.length) : ∃ m, m ∈ ms ∧ (ms.map V.int)[w.toNat]? = some (V.int m) := by
  have h : w.toNat < ms.length := by omega
  exact ⟨ms[w.toNat], List.getElem_mem h, by rw [List.getElem?_map, List.getElem?_eq_getElem h]; rfl⟩
theorem ixN_last {n : Nat} : ixN (n + 1) (-1) = some n := by
  unfold ixN
  rw [if_neg (by decide), if_pos (by omega)]
  congr 1
  omega
theorem set_last (s : List Int) (a x : Int) : ((s ++ [a]).map V.int).set s.length (V.int x) = (s ++ [x]).map V.int := by
  rw [List.map_append, List.map_append, show s.length = (s.map V.int).length by rw [List.length_map]]
  rw [List.set_append_right _ _ (Nat.le_refl _), Nat.sub_self]
  rfl
def sp_poly : Sp := fun vs H Q _ => ∃ (d g : Addr) (m : Int), vs = [.ref d, .int m] ∧ Deck H d g ∧ 0 ≤ m ∧ m ≤ 100 ∧
  ∀ (p : Addr) (r : List Int) (H' : Hp), Std H H' d g → H p = none → Lat H' d g p (r.map V.int) → Sz 300 r → (r.length : Int) ≤ m → Canon r → Q (.ref p) H'
theorem ok_law_poly (T : Tx K w mg) : FnOk P w K mg base CX0 3 T.f_law_poly T.d_law_poly ["deck", "most"] sp_poly := by
  refine T.F_law_poly.ok sc_law_poly (fun vs H Q E h => ?_) (fun cdv A outer s H vs Q E hr h => ?_)
  · obtain ⟨d, g, m, rfl, _⟩ := h
    rfl
  · obtain ⟨d, g, m, rfl, hD, m0, m1, k⟩ := h
    refine ⟨_,
    (pss_cons
      (ps_set (i := 2) sc_law_poly.nd rfl (.inl rfl) (pe_lst pa_nil))
    (pss_cons
      (ps_set (i := 3) sc_law_poly.nd rfl (.inl rfl) (pe_ix ix_list (pe_lst (pa_cons pe_int (pa_cons pe_int (pa_cons (pe_op op_pow pe_int pe_int) pa_nil)))) (pe_call (ok_law_draw T) (hr.mono (by decide)) (by rfl) T.g_law_draw T.F_law_draw.kp T.b_law_draw .nil pass0 (pa_cons (pv 0) (pa_cons pe_int pa_nil))) (fun _ _ => rfl)))
    (pss_cons
      (ps_for PassesOwn.never rfl (pi_range1 (by rfl) T.m_range (pa_cons (pe_call (ok_law_draw T) (hr.mono (by decide)) (by rfl) T.g_law_draw T.F_law_draw.kp T.b_law_draw .nil pass0 (pa_cons (pv 0) (pa_cons (pe_op op_add (pv 1) pe_int) pa_nil))) pa_nil)) (pg_name (i := 4) sc_law_poly.nd rfl (.inl rfl))
        (pss_one
          (ps_expr (pe_bm PySem.F.plainAttrs_list PySem.F.slot_list_append PySem.F.type_list_append mt_append (pv 2) (pa_cons (pe_op op_mulW (pe_call (ok_law_great T) hr (by rfl) T.g_law_great T.F_law_great.kp T.b_law_great .nil pass0 (pa_cons (pv 0) (pa_cons (pv 3) pa_nil))) (pe_ix ix_list (pe_lst (pa_cons pe_int (pa_cons pe_int (pa_cons (pe_un un_neg pe_int) (pa_cons pe_int pa_nil))))) (pe_call (ok_law_draw T) (hr.mono (by decide)) (by rfl) T.g_law_draw T.F_law_draw.kp T.b_law_draw .nil pass0 (pa_cons (pv 0) (pa_cons pe_int pa_nil))) (fun _ _ => rfl))) pa_nil)))))
    (C8.pss_cut
      (ps_if (PW.pt (pw_and (pt_cmpR (op_neD hr.units) (pv 2) (pe_lst pa_nil) (nomark _)) (pw_and1 (pt_cmpR op_eq (pe_ix ix_list (pv 2) (pe_un un_neg pe_int) (fun _ _ => rfl)) pe_int (nomark _)))))
        (pss_one
          (ps_asg (pe_op op_mulW (pe_ix ix_list (pe_lst (pa_cons pe_int (pa_cons (pe_un un_neg pe_int) pa_nil))) (pe_call (ok_law_draw T) (hr.mono (by decide)) (by rfl) T.g_law_draw T.F_law_draw.kp T.b_law_draw .nil pass0 (pa_cons (pv 0) (pa_cons pe_int pa_nil))) (fun _ _ => rfl)) (pe_op op_add pe_int (pe_call (ok_law_great T) hr (by rfl) T.g_law_great T.F_law_great.kp T.b_law_great .nil pass0 (pa_cons (pv 0) (pa_cons (pe_op op_sub (pv 3) pe_int) pa_nil))))) (pg_sub (pv 2) (pe_un un_neg pe_int) set_list)))
        pss_nil)
    (pss_one
      (ps_ret (pv 2))))))), ?_⟩
    have ht : ∀ t ∈ [3, 1000, (10 : Int) ^ (60 : Int).toNat], 2 < t ∧ t.natAbs < 2 ^ 200 := by decide +kernel
    refine ⟨Nat.zero_le _, fun D hDn => ?_⟩
    have s0 := (Std.refl hD).new (o := .lst []) hDn
    have dD := hD.new hDn
    have eD0 : (upd H D (.lst [])) D = some (.lst []) := upd_same
    generalize upd H D (.lst []) = H0 at s0 eD0 ⊢
    refine ⟨_, _, rfl, rfl, ⟨by decide, by decide, by decide⟩, (by show 3 ≤ sizeLine; decide), fun L hL => ?_⟩
    have s1 := s0.new (o := .lst ([3, 1000, (10 : Int) ^ (60 : Int).toNat].map V.int)) hL
    have dL := s0.dk.new hL
    have eD1 := same_upd (o := .lst ([3, 1000, (10 : Int) ^ (60 : Int).toNat].map V.int)) hL _ _ eD0
    refine ⟨_, rfl, d, g, 3, rfl, s1.dk, by decide, by decide +kernel, fun w0 H2 w00 w01 hD2 k2 => ?_⟩
    obtain ⟨t, hm, gm⟩ := pickI (ms := [3, 1000, (10 : Int) ^ (60 : Int).toNat]) w00 w01
    obtain ⟨t0, t1⟩ := ht t hm
    have s2 := s1.draw hD2 k2
    have eD2 := k2 _ _ eD1 dD.1 dD.2
    refine ⟨L, _, _, V.int t, rfl, rfl, .of (k2 _ _ upd_same dL.1 dL.2), at_of (j := w0.toNat) (by omega) gm, ?_⟩
    clear hm gm ht dL hL s1 k2 w00 w01 eD1 s0 eD0
    refine ⟨_, rfl, _, rfl, _, _, rfl, rfl, d, g, m + 1, rfl, s2.dk, by omega, small_log (by omega), fun n H4 n0 n1 hD4 k4 => ⟨_, rfl, by omega, by omega, for_range (n := _) (fun i σ H' => ∃ (r : List Int) (x5 : Option V), Std H H' d g ∧ H' D = some (.lst (r.map V.int)) ∧ Sz 200 r ∧ r.length = i ∧ σ = [some (.ref d), some (.int m), some (.ref D), some (.int t), x5]) ?_ ?_ ?_⟩⟩
    · exact ⟨[], none, s2.draw hD4 k4, k4 _ _ eD2 dD.1 dD.2, (fun _ h => absurd h List.not_mem_nil), rfl, rfl⟩
    · rintro i σ H5 hi ⟨r, x5, s6, eD, sz, rl, rfl⟩
      refine ⟨_, rfl, .inl ⟨rfl, _, .of eD⟩, _, rfl, _, rfl, d, g, t, rfl, s6.dk, by omega, fun v H6 v0 v1 hD6 k6 => ?_⟩
      have s7 := s6.draw hD6 k6
      have eD6 := k6 _ _ eD dD.1 dD.2
      refine ⟨_, rfl, (by show 4 ≤ sizeLine; decide), fun L hL => ?_⟩
      have s8 := s7.new (o := .lst ([0, 1, -1, 1].map V.int)) hL
      have dL := hD6.new hL
      have eD7 := same_upd (o := .lst ([0, 1, -1, 1].map V.int)) hL _ _ eD6
      refine ⟨_, rfl, d, g, 4, rfl, s8.dk, by decide, by decide +kernel, fun w2 H7 w20 w21 hD7 k7 => ?_⟩
      obtain ⟨x, hx, gx⟩ := pickI (ms := [0, 1, -1, 1]) w20 w21
      have hx2 : x.natAbs ≤ 1 := by
        simp only [List.mem_cons, List.not_mem_nil, or_false] at hx
        rcases hx with rfl | rfl | rfl | rfl <;> decide
      have hv : v.natAbs < 2 ^ 200 := by omega
      have eD8 := k7 _ _ eD7 dD.1 dD.2
      refine ⟨L, _, _, V.int x, rfl, rfl, .of (k7 _ _ upd_same dL.1 dL.2), at_of (j := w2.toNat) (by omega) gx, _, _, rfl, rfl, wide_mul hv (b := 1) (by omega) (by decide) (by decide) (by decide), D, _, _, rfl, rfl, eD8, ?_, r ++ [v * x], _, (s8.draw hD7 k7).mut hDn dD.1 dD.2, ?_, ?_, ?_, rfl⟩
      · rw [List.length_map, rl]; exact small1000 (by omega)
      · rw [upd_same, List.map_append]; rfl
      · intro y hy
        rcases List.mem_append.mp hy with h | h
        · exact sz y h
        · rw [List.mem_singleton.mp h, Int.natAbs_mul]
          have : v.natAbs * x.natAbs ≤ v.natAbs * 1 := Nat.mul_le_mul_left _ hx2
          omega
      · rw [List.length_append, rl]; rfl
    · rintro σ H5 ⟨r, x5, s6, eD, sz, rl, rfl⟩
      have rm : (r.length : Int) ≤ m := by omega
      have sz2 : Sz 300 r := sz.mono (by decide)
      refine ⟨fun σ H' => ∃ (r : List Int) (x5 : Option V), Std H H' d g ∧ H' D = some (.lst (r.map V.int)) ∧ Sz 300 r ∧ (r.length : Int) ≤ m ∧ Canon r ∧ σ = [some (.ref d), some (.int m), some (.ref D), some (.int t), x5], ?_, ?_⟩
      · refine ⟨_, rfl, Nat.zero_le _, fun Z hZ => ⟨.list (r.map PyData.int), .list [], .lst (.of (same_upd hZ _ _ eD)) dp_ints, .lst (.of upd_same) .nil, list_ok _, by decide, _, rfl, ?_⟩⟩
        have s7 := s6.new (o := .lst []) hZ
        have eD7 := same_upd (o := .lst []) hZ _ _ eD
        generalize upd H5 Z (.lst []) = H6 at s7 eD7 ⊢
        by_cases hne : r = []
        · subst hne
          exact iteF ⟨[], x5, s7, eD7, sz2, rm, .inl rfl, rfl⟩
        obtain ⟨u, a, rfl⟩ := snoc_of hne
        have hq : (!(PyData.list ((u ++ [a]).map PyData.int)).eqv (PyData.list [])) = true := by cases u <;> rfl
        rw [hq]
        refine iteT ?_
        refine ⟨_, rfl, _, rfl, D, _, _, V.int a, rfl, rfl, .of eD7, (by rw [List.map_append]; exact atI_last _ _), rfl, _, rfl, ite2 (fun c => ?_) (fun c => ?_)⟩
        · refine ⟨_, rfl, (by show 2 ≤ sizeLine; decide), fun L hL => ?_⟩
          have s8 := s7.new (o := .lst ([1, -1].map V.int)) hL
          have dL := s7.dk.new hL
          have eD8 := same_upd (o := .lst ([1, -1].map V.int)) hL _ _ eD7
          refine ⟨_, rfl, d, g, 2, rfl, s8.dk, by decide, by decide +kernel, fun w2 H7 w20 w21 hD7 k7 => ?_⟩
          obtain ⟨x, hx, gx⟩ := pickI (ms := [1, -1]) w20 w21
          have hx2 : x = 1 ∨ x = -1 := by
            simp only [List.mem_cons, List.not_mem_nil, or_false] at hx
            exact hx
          have s9 := s8.draw hD7 k7
          refine ⟨L, _, _, V.int x, rfl, rfl, .of (k7 _ _ upd_same dL.1 dL.2), at_of (j := w2.toNat) (by omega) gx, _, rfl, _, rfl, _, _, rfl, rfl, d, g, t - 1, rfl, hD7, by omega, fun v H8 v0 v1 hD8 k8 => ?_⟩
          have eD9 := k8 _ _ (k7 _ _ eD8 dD.1 dD.2) dD.1 dD.2
          have hv : (1 + v).natAbs < 2 ^ 200 := by omega
          refine ⟨_, _, rfl, rfl, _, _, rfl, rfl, wide_mul (a := 1) (b := 200) (by omega) hv (by decide) (by decide) (by decide), _, rfl, _, rfl, D, _, _, u.length, rfl, rfl, eD9, ?_, u ++ [x * (1 + v)], x5, (s9.draw hD8 k8).mut hDn dD.1 dD.2, ?_, ?_, ?_, .inr ⟨u, _, rfl, ?_⟩, rfl⟩
          · rw [List.length_map, List.length_append]; exact ixN_last
          · rw [upd_same, set_last]
          · intro y hy
            rcases List.mem_append.mp hy with h | h
            · exact sz2 y (List.mem_append_left _ h)
            · rw [List.mem_singleton.mp h, Int.natAbs_mul]
              have : x.natAbs = 1 := by rcases hx2 with rfl | rfl <;> rfl
              rw [this, Nat.one_mul]
              exact Nat.lt_of_lt_of_le hv (Nat.pow_le_pow_right (by decide) (by decide))
          · rw [List.length_append] at rm ⊢; exact rm
          · rcases hx2 with rfl | rfl <;> omega
        · have ha : a ≠ 0 := fun z => c (decide_eq_true (congrArg V.int z))
          exact ⟨_, x5, s7, eD7, sz2, rm, .inr ⟨u, a, rfl, ha⟩, rfl⟩
      · rintro σ H6 ⟨r, x5, s6, eD, sz, rm, hc, rfl⟩
        exact ⟨_, rfl, k D r H6 s6 hDn ⟨eD, dD.1, dD.2⟩ sz rm hc⟩
theorem dp_strs {K : PySem.W.Frag} {H : Hp} : ∀ {ss : List Str}, DpAll K H (ss.map V.str) (ss.map PyData.str)
  | [] => .nil
  | _ :: _ => .cons (.str _) dp_strs
theorem lay_strs : ∀ {ss : List Str}, (∀ z ∈ ss, PyData.canLay0 (.str z) = true) → PyData.canLayAll0 (ss.map PyData.str) = true
  | [], _ => rfl
  | a :: r, h => by
    show (PyData.canLay0 (.str a) && PyData.canLayAll0 (r.map PyData.str)) = true
    rw [h a List.mem_cons_self, lay_strs fun z hz => h z (List.mem_cons_of_mem _ hz)]
    rfl
theorem depth_strs : ∀ (ss : List Str), PyData.depthAll (ss.map PyData.str) ≤ 1
  | [] => by simp [PyData.depthAll]
  | a :: r => by
    have := depth_strs r
    simp only [List.map_cons, PyData.depthAll, PyData.depth]
    omega
def Asc (z : Str) : Prop := ∀ c ∈ z.cps.toList, c < 128
theorem asc_ok {z : Str} (h : Asc z) : PyData.canLay0 (.str z) = true := by
  simp only [PyData.canLay0, PyData.strOk, Array.all_eq_true, decide_eq_true_eq]
  intro i hi
  have hm : z.cps[i] ∈ z.cps.toList := by simp
  have := h _ hm
  omega
theorem l_app (x y : Str) : (x ++ y).cps.toList = x.cps.toList ++ y.cps.toList := TL.tl_append x y
theorem Asc.app {x y : Str} (h : Asc x) (g : Asc y) : Asc (x ++ y) := fun c hc => by
  rw [l_app] at hc
  rcases List.mem_append.mp hc with q | q
  · exact h c q
  · exact g c q
theorem asc_int (n : Int) : Asc (Str.ofString (toString n)) := fun c hc => by
  by_cases h : c < 128
  · exact h
  · exact absurd hc (PyProof.Rows.int_text_free' c ⟨by omega, .inr (by omega)⟩ n)
theorem asc_star : Asc (Str.ofString "*C") := by
  have e : (Str.ofString "*C").cps.toList = [42, 67] := by decide +kernel
  intro c hc
  rw [e] at hc
  simp at hc
  omega
theorem asc_trms {r : List Int} : ∀ n : Nat, ∀ z ∈ trms r n, Asc z
  | 0, z, hz => absurd hz List.not_mem_nil
  | n + 1, z, hz => by
    have ih := asc_trms (r := r) n z
    cases e : r[n]? with
    | none =>
      have : trms r (n + 1) = trms r n := by
        show trms r n ++ _ = _
        rw [e]; exact List.append_nil _
      rw [this] at hz
      exact ih hz
    | some a =>
      by_cases ha : a = 0
      · subst ha
        rw [trms_z e] at hz
        exact ih hz
      · rw [trms_a e ha] at hz
        rcases List.mem_append.mp hz with q | q
        · exact ih q
        · rw [List.mem_singleton.mp q]
          exact ((asc_int a).app asc_star).app (asc_int _)
theorem strs_ok {ss : List Str} (h : ∀ z ∈ ss, Asc z) : SeqAt.shaped (.list (ss.map PyData.str)) = true := by
  unfold SeqAt.shaped
  rw [Bool.and_eq_true]
  have h1 := depth_strs ss
  refine ⟨?_, decide_eq_true (by simp only [PyData.depth]; omega)⟩
  show PyData.canLayAll0 (ss.map PyData.str) = true
  exact lay_strs fun z hz => asc_ok (h z hz)
def sp_ptext (K : PySem.W.Frag) : Sp := fun vs H Q _ => ∃ (p : Addr) (r : List Int), vs = [.ref p] ∧ SqL K H p (r.map V.int) ∧ Sz 1000 r ∧ r.length ≤ 200 ∧ ∀ H', Same H H' → Q (.str (polyT r)) H'
theorem ok_law_poly_text (T : Tx K w mg) : FnOk P w K mg base CX0 1 T.f_law_poly_text T.d_law_poly_text ["entries"] (sp_ptext K) := by
  refine T.F_law_poly_text.ok sc_law_poly_text (fun vs H Q E h => ?_) (fun cdv A outer s H vs Q E hr h => ?_)
  · obtain ⟨p, r, rfl, _⟩ := h
    rfl
  · obtain ⟨p, r, rfl, hS, sz, hl, k⟩ := h
    refine ⟨_,
    (pss_cons
      (ps_setLc (i := 1) (own := [("at", 2), ("entry", 3)]) (g := gTup K 2 (gCons (gName 2) (gCons (gName 3) gNil))) rfl sc_law_poly_text.nd rfl rfl (sw_true rfl rfl rfl (by decide +kernel)) (pi_enum (by rfl) T.m_enumerate (pa_cons (pv 0) pa_nil)) (blkOk_by (N := ["entries", "parts", "at", "entry"]) (sc := defScope s_law_poly_text) (own := [("at", 2), ("entry", 3)]) (by decide +kernel)) (fun _ _ _ _ _ => (pg_tupK (K := K) rfl (by rfl) (pgs_cons (pg_name (i := 2) sc_law_poly_text.nd rfl (.inl rfl)) (pgs_cons (pg_name (i := 3) sc_law_poly_text.nd rfl (.inl rfl)) pgs_nil)))) (fun _ _ _ _ _ => (pts_one (pt_cmpR op_ne (pv 3) pe_int (nomark _)))) (fun _ _ _ _ _ => (pe_op op_add_str (pe_op op_add_str (pe_callTy call_str_int (by rfl) T.m_str (by decide +kernel) (pa_cons (pv 3) pa_nil)) pe_str) (pe_callTy call_str_int (by rfl) T.m_str (by decide +kernel) (pa_cons (pv 2) pa_nil)))))
    (pss_cons
      (ps_if (pt_cmpR (op_eqD hr.units) (pv 1) (pe_lst pa_nil) (nomark _))
        (pss_one
          (ps_ret pe_str))
        pss_nil)
    (pss_one
      (ps_ret (pe_join pe_str (pv 1)))))), ?_⟩
    have hroom := trms_room sz hl
    refine ⟨_, rfl, p, _, rfl, hS, fun D hD => ?_⟩
    refine lc_it (walk_enum (xs := r.map V.int)) (fun i H' => Same H H' ∧ H' D = some (.lst ((trms r i).map V.str))) ⟨same_upd hD, upd_same⟩ (fun i H' _ h => h.1.seq hS) ?_ ?_
    · rintro i x H1 H2 hi ⟨sm, eD⟩ ⟨U, v, y, rfl, hU, rfl, hv, hy⟩
      cases hv
      have hy : (r.map V.int)[i]? = some y := hy
      rw [List.getElem?_map] at hy
      obtain ⟨b, hb, rfl⟩ := Option.map_eq_some_iff.mp hy
      rw [List.length_map] at hi
      have s1 := sm.trans (same_upd (o := .tup [.int (i : Nat), .int b]) hU)
      have eD1 := same_upd (o := .tup [.int (i : Nat), .int b]) hU _ _ eD
      have lb := log_sz (sz b (List.mem_of_getElem? hb)) (by decide) (by decide)
      have li := log_ix (i := i) (by omega)
      have n1 := len_int lb
      have n2 := len_int li
      have big : 5000 ≤ sizeLine := by decide
      obtain ⟨c1, c2⟩ := trms_len sz i (by omega)
      refine ⟨U, _, rfl, .of upd_same, rfl, _, _, rfl, _, _, rfl, rfl, rfl, _, rfl, rfl, _, rfl, ite2 (fun c => ?_) (fun c => ⟨s1, ?_⟩)⟩
      · have hb0 : b ≠ 0 := fun z => by subst z; simp at c
        refine ⟨_, rfl, b, rfl, lb, _, _, rfl, rfl, ?_, _, rfl, (i : Nat), rfl, li, _, _, rfl, rfl, ?_, _, eD1, ?_, fun x o e => ?_, ?_⟩
        · rw [len_star]; omega
        · rw [Str.length_append, len_star]; omega
        · rw [List.length_map]; exact small1000 (by omega)
        · rw [upd_ne (ne_of_none e hD)]; exact s1 x o e
        · rw [upd_same, trms_a hb hb0, List.map_append]; rfl
      · have hb0 : b = 0 := by
          simp at c
          exact c
        rw [hb0] at hb
        rw [trms_z hb]; exact eD1
    · rintro H1 ⟨sm, eD⟩
      rw [List.length_map] at eD
      refine ⟨_, rfl, Nat.zero_le _, fun Z hZ => ⟨.list ((trms r r.length).map PyData.str), .list [], .lst (.of (same_upd hZ _ _ eD)) dp_strs, .lst (.of upd_same) .nil, strs_ok (asc_trms _), by decide, _, rfl, ?_⟩⟩
      have s2 := sm.trans (same_upd (o := .lst []) hZ)
      have eD2 := same_upd (o := .lst []) hZ _ _ eD
      generalize upd H1 Z (.lst []) = H2 at s2 eD2 ⊢
      unfold polyT at k
      revert hroom eD2 k
      cases trms r r.length with
      | nil => exact fun k _ _ => iteT (k _ s2)
      | cons z zs => exact fun k hroom eD2 => iteF ⟨⟨_, rfl⟩, _, rfl, _, D, _, rfl, rfl, .inl (.of eD2), hroom, k _ s2⟩
/-! ### the law -/
theorem iteEq {b : Bool} {A B : Prop} (hb : b = true) (h : B) : if (!b) = true then A else B := by
  rw [hb]
  exact iteF h
theorem Std.same {H0 H1 H2 : Hp} {d g : Addr} (s : Std H0 H1 d g) (t : Same H1 H2) : Std H0 H2 d g := ⟨s.dk.same t, s.kd.trans (Same.kd t)⟩
theorem map_snoc_ref (us : List Addr) (U : Addr) : (us ++ [U]).map V.ref = us.map V.ref ++ [V.ref U] := by rw [List.map_append]; rfl
def Good (B : Nat) (r : List Int) : Prop := Sz B r ∧ r.length ≤ 100 ∧ Canon r
def Rows (H : Hp) (d g : Addr) (B : Nat) (ps : List Addr) : Prop := ∀ p ∈ ps, ∃ r, Lat H d g p (r.map V.int) ∧ Good B r
theorem Rows.keep {H H' : Hp} {d g : Addr} {B : Nat} {ps : List Addr} (h : Rows H d g B ps) (k : Kd d g H H') : Rows H' d g B ps := fun p hp => by
  obtain ⟨r, h1, h2⟩ := h p hp
  exact ⟨r, h1.keep k, h2⟩
theorem Rows.snoc {H : Hp} {d g : Addr} {B : Nat} {ps : List Addr} (h : Rows H d g B ps) {p : Addr} {r : List Int} (h1 : Lat H d g p (r.map V.int)) (h2 : Good B r) : Rows H d g B (ps ++ [p]) := fun q hq => by
  rcases List.mem_append.mp hq with m | m
  · exact h q m
  · rw [List.mem_singleton.mp m]
    exact ⟨r, h1, h2⟩
theorem Rows.mono {H : Hp} {d g : Addr} {B C : Nat} {ps : List Addr} (h : Rows H d g B ps) (hl : B ≤ C) : Rows H d g C ps := fun p hp => by
  obtain ⟨r, h1, h2, h3⟩ := h p hp
  exact ⟨r, h1, h2.mono hl, h3⟩
/-- rows keep when the list of rows itself, unlike each of them, is changed -/
theorem Rows.mut {H : Hp} {d g R : Addr} {B : Nat} {ps : List Addr} {o : HO} (h : Rows H d g B ps) (n : ∀ p ∈ ps, p ≠ R) : Rows (upd H R o) d g B ps := fun p hp => by
  obtain ⟨r, h1, h2⟩ := h p hp
  exact ⟨r, ⟨by rw [upd_ne (n p hp)]; exact h1.at_, h1.nd, h1.ng⟩, h2⟩
theorem deck_mv {H : Hp} {d g R : Addr} {o : HO} (h : Deck H d g) (n : R ≠ d ∧ R ≠ g) : Deck (upd H R o) d g := by
  obtain ⟨gs, a0, m0, g1, g2, g3⟩ := h
  exact ⟨gs, a0, m0, by rw [upd_ne n.1.symm]; exact g1, by rw [upd_ne n.2.symm]; exact g2, g3⟩
theorem big60 : ((10 : Int) ^ (60 : Int).toNat).natAbs < 2 ^ 200 := by decide +kernel
theorem far_nz (b v : Int) : (b * (10 : Int) ^ (60 : Int).toNat + v) * (10 : Int) ^ (60 : Int).toNat - 3 ≠ 0 := by
  have e : (10 : Int) ^ (60 : Int).toNat = 1000000000000000000000000000000000000000000000000000000000000 := by decide +kernel
  rw [e]
  omega
theorem far_sz {b v : Int} (hb : b.natAbs < 2 ^ 300) (hv : v.natAbs < 2 ^ 200) : CMulW b ((10 : Int) ^ (60 : Int).toNat) ∧ CMulW (b * (10 : Int) ^ (60 : Int).toNat + v) ((10 : Int) ^ (60 : Int).toNat) ∧ ((b * (10 : Int) ^ (60 : Int).toNat + v) * (10 : Int) ^ (60 : Int).toNat - 3).natAbs < 2 ^ 900 := by
  have h0 := big60
  generalize (10 : Int) ^ (60 : Int).toNat = t at h0 ⊢
  have h1 : (b * t).natAbs < 2 ^ 500 := wide_lt (a := 300) (b := 200) hb h0
  have h2 : (b * t + v).natAbs < 2 ^ 501 := by
    have e1 : (2 : Nat) ^ 500 + 2 ^ 200 ≤ 2 ^ 501 := by decide +kernel
    have e2 := Int.natAbs_add_le (b * t) v
    exact Nat.lt_of_lt_of_le (Nat.lt_of_le_of_lt e2 (Nat.add_lt_add h1 hv)) e1
  have h3 : ((b * t + v) * t).natAbs < 2 ^ 701 := wide_lt (a := 501) (b := 200) h2 h0
  refine ⟨wide_mul hb h0 (by decide) (by decide) (by decide), wide_mul h2 h0 (by decide) (by decide) (by decide), ?_⟩
  have e1 : (2 : Nat) ^ 701 + 3 ≤ 2 ^ 900 := by decide +kernel
  generalize (b * t + v) * t = z at h3 ⊢
  have e2 : (z - 3).natAbs ≤ z.natAbs + 3 := by omega
  exact Nat.lt_of_lt_of_le (Nat.lt_of_le_of_lt e2 (Nat.add_lt_add_right h3 3)) e1
theorem Canon.app {r : List Int} {a : Int} (ha : a ≠ 0) : Canon (r ++ [a]) := .inr ⟨r, a, rfl, ha⟩
theorem Sz.app {B : Nat} {r : List Int} {a : Int} (h : Sz B r) (ha : a.natAbs < 2 ^ B) : Sz B (r ++ [a]) := fun x hx => by
  rcases List.mem_append.mp hx with m | m
  · exact h x m
  · rw [List.mem_singleton.mp m]; exact ha
def spLaw (K : PySem.W.Frag) : Sp := fun vs H Q _ => ∃ (a : Addr) (ns : List Int), vs = [.ref a] ∧ SqL K H a (ns.map V.int) ∧ ns.length ≤ 63 ∧ ∀ H', Q (.bl true) H'
set_option maxHeartbeats 1600000 in
theorem ok_law (T : Tx K w mg) : FnOk P w K mg base CX0 4 T.f_law T.d_law ["script"] (spLaw K) := by
  refine T.F_law.ok sc_law (fun vs H Q E h => ?_) (fun cdv A outer s H vs Q E hr h => ?_)
  · obtain ⟨a, ns, rfl, _⟩ := h
    rfl
  · obtain ⟨a, ns, rfl, hS, hl, k⟩ := h
    refine ⟨_,
    (pss_cons
      (ps_set (i := 1) sc_law.nd rfl (.inr rfl) (pe_call (ok_law_deck T) (hr.mono (by decide)) (by rfl) T.g_law_deck T.F_law_deck.kp T.b_law_deck .nil pass0 (pa_cons (pv 0) pa_nil)))
    (pss_cons
      (ps_setLc (i := 2) (own := [("k", 6)]) (g := gName 6) rfl sc_law.nd rfl rfl (sw_true rfl rfl rfl (by decide +kernel)) (pi_range1 (by rfl) T.m_range (pa_cons (pe_op op_add pe_int (pe_call (ok_law_draw T) (hr.mono (by decide)) (by rfl) T.g_law_draw T.F_law_draw.kp T.b_law_draw .nil pass0 (pa_cons (pv 1) (pa_cons pe_int pa_nil)))) pa_nil)) (blkOk_by (N := ["script", "deck", "rows", "at", "handed", "line", "k", "entry"]) (sc := defScope s_law) (own := [("k", 6)]) (by decide +kernel)) (fun _ _ _ _ _ => (pg_name (i := 6) sc_law.nd rfl (.inl rfl))) (fun _ _ _ _ _ => pts_nil) (fun _ _ _ _ _ => (pe_call (ok_law_poly T) hr (by rfl) T.g_law_poly T.F_law_poly.kp T.b_law_poly .nil pass0 (pa_cons (pv 1) (pa_cons (pe_ix (r := rIxL K) ix_list (pe_lst (pa_cons pe_int (pa_cons pe_int (pa_cons pe_int pa_nil)))) (pe_call (ok_law_draw T) (hr.mono (by decide)) (by rfl) T.g_law_draw T.F_law_draw.kp T.b_law_draw .nil pass0 (pa_cons (pv 1) (pa_cons pe_int pa_nil))) (fun _ _ => rfl)) pa_nil)))))
    (C8.pss_cut
      (ps_if (pt_cmpR op_eq (pe_call (ok_law_draw T) (hr.mono (by decide)) (by rfl) T.g_law_draw T.F_law_draw.kp T.b_law_draw .nil pass0 (pa_cons (pv 1) (pa_cons pe_int pa_nil))) pe_int (nomark _))
        (pss_one
          (ps_expr (pe_bm PySem.F.plainAttrs_list PySem.F.slot_list_append PySem.F.type_list_append mt_append (pv 2) (pa_cons (pe_lc (own := [("entry", 7)]) (g := gName 7) rfl sc_law.nd (pi_list (pe_ix ix_list (pv 2) pe_int (fun _ _ => rfl))) (blkOk_by (N := ["script", "deck", "rows", "at", "handed", "line", "k", "entry"]) (sc := defScope s_law) (own := [("entry", 7)]) (by decide +kernel)) (fun _ _ _ _ _ => (pg_name (i := 7) sc_law.nd rfl (.inl rfl))) (fun _ _ _ _ _ => pts_nil) (fun _ _ _ _ _ => (pe_op op_sub (pe_op op_mulW (pe_op op_add (pe_op op_mulW (pv 7) (pe_op op_pow pe_int pe_int)) (pe_call (ok_law_great T) (hr.mono (by decide)) (by rfl) T.g_law_great T.F_law_great.kp T.b_law_great .nil pass0 (pa_cons (pv 1) (pa_cons (pe_op op_pow pe_int pe_int) pa_nil)))) (pe_op op_pow pe_int pe_int)) pe_int))) pa_nil))))
        pss_nil)
    (pss_cons
      (ps_expr (pe_bm PySem.F.plainAttrs_list PySem.F.slot_list_append PySem.F.type_list_append mt_append (pv 2) (pa_cons (pe_lst pa_nil) pa_nil)))
    (pss_cons
      (ps_for PassesOwn.never rfl (pi_list (pe_op op_rep (pe_call (ok_law_order T) (hr.mono (by decide)) (by rfl) T.g_law_order T.F_law_order.kp T.b_law_order .nil pass0 (pa_cons (pv 1) (pa_cons (pe_callB call_len_seq (by rfl) T.m_len (by decide +kernel) (pa_cons (pv 2) pa_nil)) pa_nil))) pe_int)) (pg_name (i := 3) sc_law.nd rfl (.inl rfl))
        (pss_cons
          (ps_set (i := 4) sc_law.nd rfl (.inl rfl) (pe_callTy call_list_of (by rfl) T.m_list (by decide +kernel) (pa_cons (pe_ix ix_list (pv 2) (pv 3) (fun _ _ => rfl)) pa_nil)))
        (pss_cons
          (ps_set (i := 5) sc_law.nd rfl (.inl rfl) (pe_call (ok_show_polynomial T) (hr.mono (by decide)) (by rfl) T.g_show_polynomial T.F_show_polynomial.kp T.b_show_polynomial .nil pass0 (pa_cons (pv 4) pa_nil)))
        (pss_cons
          (ps_if (PW.pt (pw_or (pt_not (pt_val (pe_callB call_isi (by rfl) T.m_isinstance (by decide +kernel) (pa_cons (pv 5) (pa_cons (pe_bltn (v := .ty "str") (by rfl) T.m_str (by decide +kernel) rfl) pa_nil))))) (pw_or (pt_cmpR op_ne (pv 5) (pe_call (ok_law_poly_text T) (hr.mono (by decide)) (by rfl) T.g_law_poly_text T.F_law_poly_text.kp T.b_law_poly_text .nil pass0 (pa_cons (pe_ix ix_list (pv 2) (pv 3) (fun _ _ => rfl)) pa_nil)) (nomark _)) (pw_or1 (pt_cmpR (op_neD hr.units) (pv 4) (pe_ix ix_list (pv 2) (pv 3) (fun _ _ => rfl)) (nomark _))))))
            (pss_one
              (ps_ret pe_bl))
            pss_nil)
        (pss_cons
          (ps_expr (pe_bm PySem.F.plainAttrs_list PySem.F.slot_list_append PySem.F.type_list_append mt_append (pv 4) (pa_cons pe_int pa_nil)))
        (C8.pss_cut
          (ps_if (PW.pt (pw_and (pt_cmpR op_le (pe_callB call_len_seq (by rfl) T.m_len (by decide +kernel) (pa_cons (pv 4) pa_nil)) pe_int (nomark _)) (pw_and1 (pt_cmpR op_ne (pe_call (ok_show_polynomial T) (hr.mono (by decide)) (by rfl) T.g_show_polynomial T.F_show_polynomial.kp T.b_show_polynomial .nil pass0 (pa_cons (pv 4) pa_nil)) (pe_call (ok_law_poly_text T) (hr.mono (by decide)) (by rfl) T.g_law_poly_text T.F_law_poly_text.kp T.b_law_poly_text .nil pass0 (pa_cons (pe_op op_cat (pe_ix ix_list (pv 2) (pv 3) (fun _ _ => rfl)) (pe_lst (pa_cons pe_int pa_nil))) pa_nil)) (nomark _)))))
            (pss_one
              (ps_ret pe_bl))
            pss_nil)
        (pss_one
          (ps_if (pt_cmpR op_ne (pe_callN0 (ok_show_polynomial T) (hr.mono (by decide)) (by rfl) T.g_show_polynomial T.F_show_polynomial.kp (kb_show_polynomial T) pass0 (pk_cons (pe_callTy call_list_of (by rfl) T.m_list (by decide +kernel) (pa_cons (pe_ix ix_list (pv 2) (pv 3) (fun _ _ => rfl)) pa_nil)) pk_nil)) (pv 5) (nomark _))
            (pss_one
              (ps_ret pe_bl))
            pss_nil))))))))
    (pss_one
      (ps_ret pe_bl))))))), ?_⟩
    refine ⟨_, rfl, a, ns, rfl, hS, hl, fun d g H1 s1 hD1 => ?_⟩
    -- rows
    refine ⟨_, rfl, d, g, 4, rfl, hD1, by decide, by decide +kernel, fun n H2 n0 n1 hD2 k2 => ⟨_, _, rfl, rfl, _, rfl, by omega, by omega, fun R hRn => ?_⟩⟩
    have dR := hD2.new hRn
    refine lc_range (lo := 0) (n := _) (fun i H' => ∃ ps : List Addr, Std H2 H' d g ∧ H' R = some (.lst (ps.map V.ref)) ∧ Rows H' d g 300 ps ∧ (∀ p ∈ ps, p ≠ R) ∧ ps.length = i) ?_ ?_ ?_
    · exact ⟨[], (Std.refl hD2).new hRn, upd_same, (fun _ h => absurd h List.not_mem_nil), (fun _ h => absurd h List.not_mem_nil), rfl⟩
    · rintro i H3 hi ⟨ps, s3, eR, rows, nR, pl⟩
      refine ⟨rfl, _, rfl, (by show 3 ≤ sizeLine; decide), fun L hL => ?_⟩
      have s4 := s3.new (o := .lst ([3, 12, 100].map V.int)) hL
      have dL := s3.dk.new hL
      have sL := same_upd (o := .lst ([3, 12, 100].map V.int)) hL
      refine ⟨_, rfl, d, g, 3, rfl, s4.dk, by decide, by decide +kernel, fun w H5 w0 w1 hD5 k5 => ?_⟩
      obtain ⟨x, hx, gx⟩ := pickI (ms := [3, 12, 100]) w0 w1
      have hx2 : 0 ≤ x ∧ x ≤ 100 := by
        simp only [List.mem_cons, List.not_mem_nil, or_false] at hx
        rcases hx with rfl | rfl | rfl <;> decide
      have s5 := s4.draw hD5 k5
      refine ⟨L, _, _, V.int x, rfl, rfl, .of (k5 _ _ upd_same dL.1 dL.2), at_of (j := w.toNat) (by omega) gx, d, g, x, rfl, hD5, hx2.1, hx2.2, fun p r H6 s6 fp lp sz lr hc => ?_⟩
      have s7 := s5.trans s6
      have eR5 := k5 _ _ (sL _ _ eR) dR.1 dR.2
      have eR6 := s6.kd _ _ eR5 dR.1 dR.2
      have pR : p ≠ R := (ne_of_none eR5 fp).symm
      have rows6 := ((rows.keep (Same.kd sL)).keep k5).keep s6.kd
      refine ⟨ps.map V.ref, eR6, ?_, ps ++ [p], s7.mut hRn dR.1 dR.2, ?_, (rows6.snoc lp ⟨sz, by omega, hc⟩).mut ?_, ?_, ?_⟩
      · rw [List.length_map, pl]; exact small1000 (by omega)
      · rw [upd_same, map_snoc_ref]
      · intro q hq
        rcases List.mem_append.mp hq with m | m
        · exact nR q m
        · rw [List.mem_singleton.mp m]; exact pR
      · intro q hq
        rcases List.mem_append.mp hq with m | m
        · exact nR q m
        · rw [List.mem_singleton.mp m]; exact pR
      · rw [List.length_append, pl]; rfl
    rintro H3 ⟨ps, s3, eR, rows, nR, pl⟩
    have pl2 : 1 ≤ ps.length ∧ ps.length ≤ 4 := by omega
    have hD3 := s3.dk
    clear pl s3 k2 hRn n0 n1 hD2 hD1 s1
    refine ⟨fun σ H' => ∃ ps : List Addr, Deck H' d g ∧ H' R = some (.lst (ps.map V.ref)) ∧ Rows H' d g 900 ps ∧ (∀ p ∈ ps, p ≠ R) ∧ ps.length ≤ 5 ∧ σ = [some (.ref a), some (.ref d), some (.ref R), none, none, none, none, none],
      ⟨_, rfl, d, g, 4, rfl, hD3, by decide, by decide +kernel, fun w H4 w0 w1 hD4 k4 => ⟨rfl, _, rfl, ite2 (fun _ => ?_) (fun _ => ?_)⟩⟩, ?_⟩
    · have eR4 := k4 _ _ eR dR.1 dR.2
      have rows4 := rows.keep k4
      obtain ⟨p0, ps', rfl⟩ : ∃ p0 ps', ps = p0 :: ps' := by
        cases ps with
        | nil => simp at pl2
        | cons x y => exact ⟨x, y, rfl⟩
      obtain ⟨r0, lp0, sz0, len0, hc0⟩ := rows4 p0 List.mem_cons_self
      refine ⟨_, rfl, .inl ⟨rfl, _, .of eR4⟩, _, rfl, R, _, _, V.ref p0, rfl, rfl, .of eR4, atI_nat (j := 0) rfl, p0, rfl, ⟨_, .of lp0.at_⟩, fun D hDn => ?_⟩
      have dD := hD4.new hDn
      have RD : R ≠ D := ne_of_none eR4 hDn
      refine lc_list (xs := r0.map V.int) (fun i H' => ∃ ys : List Int, Std H4 H' d g ∧ H' D = some (.lst (ys.map V.int)) ∧ Sz 900 ys ∧ ys.length = i ∧ ∀ y ∈ ys, y ≠ 0) ?_ ?_ ?_ ?_
      · exact ⟨[], (Std.refl hD4).new hDn, upd_same, (fun _ h => absurd h List.not_mem_nil), rfl, (fun _ h => absurd h List.not_mem_nil)⟩
      · rintro i H' _ ⟨ys, s5, _⟩
        exact .of (lp0.keep s5.kd).at_
      · rintro i v H5 hi ⟨ys, s5, eD, sz, yl, nz⟩
        rw [List.getElem?_map] at hi
        obtain ⟨b, hb, rfl⟩ := Option.map_eq_some_iff.mp hi
        have hil := (List.getElem?_eq_some_iff.mp hb).1
        refine ⟨rfl, _, rfl, _, _, rfl, rfl, ⟨by decide, by decide, by decide⟩, _, _, rfl, rfl, (far_sz (v := 0) (sz0 b (List.mem_of_getElem? hb)) (by decide)).1, _, rfl, _, _, rfl, rfl, ⟨by decide, by decide, by decide⟩, d, g, _, rfl, s5.dk, by decide +kernel, fun v H6 v0 v1 hD6 k6 => ?_⟩
        have hv : v.natAbs < 2 ^ 200 := by
          have := big60
          omega
        obtain ⟨c1, c2, c3⟩ := far_sz (sz0 b (List.mem_of_getElem? hb)) hv
        refine ⟨_, _, rfl, rfl, _, _, rfl, rfl, ⟨by decide, by decide, by decide⟩, _, _, rfl, rfl, c2, _, _, rfl, rfl, ys.map V.int, k6 _ _ eD dD.1 dD.2, ?_, ys ++ [(b * (10 : Int) ^ (60 : Int).toNat + v) * (10 : Int) ^ (60 : Int).toNat - 3], (s5.draw hD6 k6).mut hDn dD.1 dD.2, ?_, ?_, ?_, ?_⟩
        · rw [List.length_map, yl]; exact small1000 (by omega)
        · rw [upd_same, List.map_append]; rfl
        · intro y hy
          rcases List.mem_append.mp hy with h | h
          · exact sz y h
          · rw [List.mem_singleton.mp h]; exact c3
        · rw [List.length_append, yl]; rfl
        · intro y hy
          rcases List.mem_append.mp hy with h | h
          · exact nz y h
          · rw [List.mem_singleton.mp h]; exact far_nz b v
      · rintro H5 ⟨ys, s5, eD, sz, yl, nz⟩
        rw [List.length_map] at yl
        have eR5 := s5.kd _ _ eR4 dR.1 dR.2
        have rows5 := (rows4.keep s5.kd).mono (C := 900) (by decide)
        have hc : Canon ys := by
          by_cases h : ys = []
          · exact .inl h
          · obtain ⟨s, b, rfl⟩ := snoc_of h
            exact .inr ⟨s, b, rfl, nz b (by simp)⟩
        refine ⟨R, _, _, rfl, rfl, eR5, ?_, (p0 :: ps') ++ [D], deck_mv s5.dk dR, ?_, (rows5.snoc ⟨eD, dD.1, dD.2⟩ ⟨sz, by omega, hc⟩).mut ?_, ?_, ?_, rfl⟩
        · rw [List.length_map]; exact small1000 (by omega)
        · rw [upd_same, map_snoc_ref]
        · intro q hq
          rcases List.mem_append.mp hq with m | m
          · exact nR q m
          · rw [List.mem_singleton.mp m]; exact RD.symm
        · intro q hq
          rcases List.mem_append.mp hq with m | m
          · exact nR q m
          · rw [List.mem_singleton.mp m]; exact RD.symm
        · rw [List.length_append]; show _ + 1 ≤ 5; omega
    · exact ⟨ps, hD4, k4 _ _ eR dR.1 dR.2, (rows.keep k4).mono (by decide), nR, by omega, rfl⟩
    clear rows nR pl2 eR hD3 ps H3
    rintro σ H3 ⟨ps, hD3, eR, rows, nR, pl, rfl⟩
    -- the row []
    refine ⟨_, rfl, .inl ⟨rfl, _, .of eR⟩, Nat.zero_le _, fun E0 hE0 => ?_⟩
    have sE := same_upd (o := .lst []) hE0
    have ER : E0 ≠ R := (ne_of_none eR hE0).symm
    have dE := hD3.new hE0
    have eR1 := sE _ _ eR
    have hD4 : Deck (upd (upd H3 E0 (.lst [])) R (.lst ((ps ++ [E0]).map V.ref))) d g := deck_mv (hD3.same sE) dR
    have rows4 : Rows (upd (upd H3 E0 (.lst [])) R (.lst ((ps ++ [E0]).map V.ref))) d g 900 (ps ++ [E0]) := by
      refine ((rows.keep (Same.kd sE)).snoc (r := []) ⟨upd_same, dE.1, dE.2⟩ ⟨(fun _ h => absurd h List.not_mem_nil), by decide, .inl rfl⟩).mut fun q hq => ?_
      rcases List.mem_append.mp hq with m | m
      · exact nR q m
      · rw [List.mem_singleton.mp m]; exact ER
    have eR4 : (upd (upd H3 E0 (.lst [])) R (.lst ((ps ++ [E0]).map V.ref))) R = some (.lst ((ps ++ [E0]).map V.ref)) := upd_same
    have pl4 : (ps ++ [E0]).length ≤ 6 := by rw [List.length_append]; show _ + 1 ≤ 6; omega
    have pl5 : 1 ≤ (ps ++ [E0]).length := by rw [List.length_append]; show 1 ≤ _ + 1; omega
    refine ⟨R, _, _, rfl, rfl, eR1, ?_, ?_⟩
    · rw [List.length_map]; exact small1000 (by omega)
    rw [show ps.map V.ref ++ [V.ref E0] = (ps ++ [E0]).map V.ref from (map_snoc_ref _ _).symm]
    generalize upd (upd H3 E0 (.lst [])) R (.lst ((ps ++ [E0]).map V.ref)) = H4 at *
    generalize ps ++ [E0] = qs at *
    clear sE ER dE eR1 hE0 rows nR pl eR hD3
    -- all asked
    refine ⟨_, rfl, _, rfl, R, _, rfl, .inl (.of eR4), d, g, _, rfl, hD4, ?_, fun q os H5 s5 fq eq n1 n2 oin ol ond => ⟨q, 2, _, rfl, rfl, eq, by decide, by decide, ?_, fun W hW => ⟨W, rfl, ⟨_, .of upd_same⟩, ?_⟩⟩⟩
    · rw [List.length_map]; omega
    · rw [List.length_map, ol, List.length_map]
      exact Nat.le_of_lt (small1000 (by show qs.length * 2 ≤ 1000; omega))
    have t6 : Std H4 (upd H5 W (.lst (List.replicate (2 : Int).toNat (os.map V.int)).flatten)) d g := s5.new hW
    have dW := s5.dk.new hW
    have eW := upd_same (H := H5) (a := W) (o := .lst (List.replicate (2 : Int).toNat (os.map V.int)).flatten)
    have inW : ∀ v ∈ (List.replicate (2 : Int).toNat (os.map V.int)).flatten, ∃ o : Nat, v = V.int (o : Int) ∧ o < qs.length := fun v hv => by
      obtain ⟨l, hl, hv⟩ := List.mem_flatten.mp hv
      rw [List.eq_of_mem_replicate hl] at hv
      obtain ⟨o, ho, rfl⟩ := List.mem_map.mp hv
      obtain ⟨h1, h2⟩ := oin o ho
      rw [List.length_map] at h2
      obtain ⟨m, rfl⟩ := Int.eq_ofNat_of_zero_le h1
      exact ⟨m, rfl, by omega⟩
    generalize (List.replicate (2 : Int).toNat (os.map V.int)).flatten = ws at *
    generalize upd H5 W (.lst ws) = H6 at *
    clear hW ond ol oin n1 n2 eq fq s5 H5
    refine for_list (xs := ws) (fun i σ H' => Std H6 H' d g ∧ ∃ x3 x4 x5 : Option V, σ = [some (.ref a), some (.ref d), some (.ref R), x3, x4, x5, none, none]) ⟨Std.refl t6.dk, _, _, _, rfl⟩ (fun i σ H' _ h => .of (h.1.kd _ _ eW dW.1 dW.2)) ?_ ?_
    · rintro i v σ H7 hi ⟨s7, x3, x4, x5, rfl⟩
      obtain ⟨o, rfl, ho⟩ := inW v (List.mem_of_getElem? hi)
      have t7 := t6.trans s7
      have eR7 := t7.kd _ _ eR4 dR.1 dR.2
      have hm := List.getElem_mem ho
      obtain ⟨r, lp, sz9, len, hc⟩ := (rows4.keep t7.kd) _ hm
      have go : (qs.map V.ref)[o]? = some (V.ref qs[o]) := by rw [List.getElem?_map, List.getElem?_eq_getElem ho]; rfl
      have sz : Sz 1000 r := sz9.mono (by decide)
      generalize qs[o] = p at *
      -- handed, line
      refine ⟨_, rfl, _, rfl, R, _, _, V.ref p, rfl, rfl, .of eR7, at_of (j := o) (by omega) go, p, _, rfl, .inl (.of lp.at_), fun h hh => ?_⟩
      have s8 := same_upd (o := .lst (r.map V.int)) hh
      have dh := t7.dk.new hh
      have fh : H6 h = none := s7.free hh
      have eh : (upd H7 h (.lst (r.map V.int))) h = some (.lst (r.map V.int)) := upd_same
      have ph : p ≠ h := ne_of_none lp.at_ hh
      have Rh : R ≠ h := ne_of_none eR7 hh
      refine ⟨_, rfl, h, r, rfl, .of eh, sz, by omega, hc, fun H9 s9 => ?_⟩
      have s79 := s8.trans s9
      have eh9 := s9 _ _ eh
      -- the line
      refine ⟨_, rfl, _, _, _, _, true, rfl, .ty "str", .base (.str _), kit_ty (by decide +kernel), _, rfl, ?_⟩
      refine ⟨_, rfl, _, rfl, _, rfl, R, _, _, V.ref p, rfl, rfl, .of (s79 _ _ eR7), at_of (j := o) (by omega) go, p, r, rfl, .of (s79 _ _ lp.at_), sz, by omega, fun H10 s10' => ⟨rfl, _, rfl, iteNS rfl ?_⟩⟩
      have s10 := s79.trans s10'
      have eh10 := s10' _ _ eh9
      refine ⟨_, rfl, _, rfl, _, rfl, R, _, _, V.ref p, rfl, rfl, .of (s10 _ _ eR7), at_of (j := o) (by omega) go, .list (r.map PyData.int), .list (r.map PyData.int), .lst (.of eh10) dp_ints, .lst (.of (s10 _ _ lp.at_)) dp_ints, list_ok _, list_ok _, _, rfl, iteEq (SeqAt.eqv_refl _ (SeqAt.canLay_of_shaped (list_ok r))) ?_⟩
      -- one more
      refine ⟨_, rfl, .inl ⟨rfl, _, .of eh10⟩, h, _, _, rfl, rfl, eh10, ?_, ?_⟩
      · rw [List.length_map]; exact small1000 (by omega)
      have t11 : Std H6 (upd H10 h (.lst (r.map V.int ++ [V.int 7]))) d g := (s7.same s10).mut fh dh.1 dh.2
      have eh11 : (upd H10 h (.lst (r.map V.int ++ [V.int 7]))) h = some (.lst ((r ++ [7]).map V.int)) := by rw [upd_same, List.map_append]; rfl
      have lp11 : (upd H10 h (.lst (r.map V.int ++ [V.int 7]))) p = some (.lst (r.map V.int)) := by rw [upd_ne ph]; exact s10 _ _ lp.at_
      have eR11 : (upd H10 h (.lst (r.map V.int ++ [V.int 7]))) R = some (.lst (qs.map V.ref)) := by rw [upd_ne Rh]; exact s10 _ _ eR7
      generalize upd H10 h (.lst (r.map V.int ++ [V.int 7])) = H11 at *
      clear eh10 s10 s10' eh9 s79 s9 eh s8 hh
      have sz7 : Sz 1000 (r ++ [7]) := sz.app (by decide +kernel)
      have l7 : (r ++ [7]).length ≤ 200 := by rw [List.length_append]; show _ + 1 ≤ 200; omega
      refine ⟨fun σ H' => Same H11 H' ∧ σ = [some (.ref a), some (.ref d), some (.ref R), some (.int (o : Int)), some (.ref h), some (.str (polyT r)), none, none],
        ⟨_, rfl, h, _, rfl, .inl (.of eh11), _, _, rfl, rfl, _, rfl, ite2 (fun _ => ?_) (fun _ => ⟨Same.refl H11, rfl⟩)⟩, ?_⟩
      · refine ⟨_, rfl, h, r ++ [7], rfl, .of eh11, sz7, l7, Canon.app (by decide), fun H12 s12 => ?_⟩
        refine ⟨_, rfl, _, rfl, R, _, _, V.ref p, rfl, rfl, .of (s12 _ _ eR11), at_of (j := o) (by omega) go, (by show 1 ≤ sizeLine; decide), fun L hL => ?_⟩
        have sL := same_upd (o := .lst [V.int 7]) hL
        have eL := upd_same (H := H12) (a := L) (o := .lst [V.int 7])
        have s13 := s12.trans sL
        generalize upd H12 L (.lst [V.int 7]) = H13 at *
        refine ⟨p, L, _, _, rfl, rfl, s13 _ _ lp11, eL, ?_, fun N hN => ?_⟩
        · rw [List.length_map]; exact Nat.le_of_lt (small1000 (by show r.length + 1 ≤ 1000; omega))
        have sN := same_upd (o := .lst (r.map V.int ++ [V.int 7])) hN
        have eN : (upd H13 N (.lst (r.map V.int ++ [V.int 7]))) N = some (.lst ((r ++ [7]).map V.int)) := by rw [upd_same, List.map_append]; rfl
        have s14 := s13.trans sN
        exact ⟨N, r ++ [7], rfl, .of eN, sz7, l7, fun H15 s15 => ⟨rfl, _, rfl, iteNS rfl ⟨s14.trans s15, rfl⟩⟩⟩
      rintro σ H12 ⟨s12, rfl⟩
      refine ⟨_, rfl, _, rfl, R, _, _, V.ref p, rfl, rfl, .of (s12 _ _ eR11), at_of (j := o) (by omega) go, p, _, rfl, .inl (.of (s12 _ _ lp11)), fun L hL => ?_⟩
      have sL := same_upd (o := .lst (r.map V.int)) hL
      exact ⟨rfl, rfl, L, r, rfl, .of upd_same, sz, by omega, hc, fun H13 s13 => ⟨_, rfl, rfl, _, rfl, iteNS rfl ⟨((t11.same s12).same sL).same s13, _, _, _, rfl⟩⟩⟩
    · rintro σ H7 _
      exact k _
end
theorem all_mk {l : PySem.W.OpenLaw} {w : World} {K : PySem.W.Frag} {h : Heap} {mg : Str → Option Value} {fa f_show_polynomial f_law_deck f_law_draw f_law_great f_law_poly f_law_poly_text f_law_order f_law : Addr} (X : K.In h) (G : h.Ns mainGlobals mg) (hfa : mg "law" = some (.ref fa))
    {od_show_polynomial an_show_polynomial : Option Addr} {sl_show_polynomial : Array (Option Value)} {oc_show_polynomial kV_show_polynomial dc_show_polynomial pm_show_polynomial cd_show_polynomial ct_show_polynomial : Value}
    {od_law_deck an_law_deck : Option Addr} {sl_law_deck : Array (Option Value)} {oc_law_deck kV_law_deck dc_law_deck pm_law_deck cd_law_deck ct_law_deck : Value}
    {od_law_draw an_law_draw : Option Addr} {sl_law_draw : Array (Option Value)} {oc_law_draw kV_law_draw dc_law_draw pm_law_draw cd_law_draw ct_law_draw : Value}
    {od_law_great an_law_great : Option Addr} {sl_law_great : Array (Option Value)} {oc_law_great kV_law_great dc_law_great pm_law_great cd_law_great ct_law_great : Value}
    {od_law_poly an_law_poly : Option Addr} {sl_law_poly : Array (Option Value)} {oc_law_poly kV_law_poly dc_law_poly pm_law_poly cd_law_poly ct_law_poly : Value}
    {od_law_poly_text an_law_poly_text : Option Addr} {sl_law_poly_text : Array (Option Value)} {oc_law_poly_text kV_law_poly_text dc_law_poly_text pm_law_poly_text cd_law_poly_text ct_law_poly_text : Value}
    {od_law_order an_law_order : Option Addr} {sl_law_order : Array (Option Value)} {oc_law_order kV_law_order dc_law_order pm_law_order cd_law_order ct_law_order : Value}
    {od_law an_law : Option Addr} {sl_law : Array (Option Value)} {oc_law kV_law dc_law pm_law cd_law ct_law : Value}
    (a_show_polynomial : PySem.W.nsIn K mainGlobals "show_polynomial" = some (some (.ref f_show_polynomial)))
    (l_show_polynomial : K.lookup f_show_polynomial = some ⟨oc_show_polynomial, od_show_polynomial, .func (PySem.W.fnOf "show_polynomial" "show_polynomial" (defArgs s_show_polynomial) (defBody s_show_polynomial) (defScope s_show_polynomial) .none kV_show_polynomial dc_show_polynomial pm_show_polynomial an_show_polynomial cd_show_polynomial ct_show_polynomial), sl_show_polynomial⟩)
    (c_show_polynomial : PySem.W.codeIn K cd_show_polynomial "show_polynomial" = true)
    (k_show_polynomial : PySem.W.keepIn K (.ref f_show_polynomial) = true)
    (a_law_deck : PySem.W.nsIn K mainGlobals "_law_deck" = some (some (.ref f_law_deck)))
    (l_law_deck : K.lookup f_law_deck = some ⟨oc_law_deck, od_law_deck, .func (PySem.W.fnOf "_law_deck" "_law_deck" (defArgs s_law_deck) (defBody s_law_deck) (defScope s_law_deck) .none kV_law_deck dc_law_deck pm_law_deck an_law_deck cd_law_deck ct_law_deck), sl_law_deck⟩)
    (c_law_deck : PySem.W.codeIn K cd_law_deck "_law_deck" = true)
    (k_law_deck : PySem.W.keepIn K (.ref f_law_deck) = true)
    (a_law_draw : PySem.W.nsIn K mainGlobals "_law_draw" = some (some (.ref f_law_draw)))
    (l_law_draw : K.lookup f_law_draw = some ⟨oc_law_draw, od_law_draw, .func (PySem.W.fnOf "_law_draw" "_law_draw" (defArgs s_law_draw) (defBody s_law_draw) (defScope s_law_draw) .none kV_law_draw dc_law_draw pm_law_draw an_law_draw cd_law_draw ct_law_draw), sl_law_draw⟩)
    (c_law_draw : PySem.W.codeIn K cd_law_draw "_law_draw" = true)
    (k_law_draw : PySem.W.keepIn K (.ref f_law_draw) = true)
    (a_law_great : PySem.W.nsIn K mainGlobals "_law_great" = some (some (.ref f_law_great)))
    (l_law_great : K.lookup f_law_great = some ⟨oc_law_great, od_law_great, .func (PySem.W.fnOf "_law_great" "_law_great" (defArgs s_law_great) (defBody s_law_great) (defScope s_law_great) .none kV_law_great dc_law_great pm_law_great an_law_great cd_law_great ct_law_great), sl_law_great⟩)
    (c_law_great : PySem.W.codeIn K cd_law_great "_law_great" = true)
    (k_law_great : PySem.W.keepIn K (.ref f_law_great) = true)
    (a_law_poly : PySem.W.nsIn K mainGlobals "_law_poly" = some (some (.ref f_law_poly)))
    (l_law_poly : K.lookup f_law_poly = some ⟨oc_law_poly, od_law_poly, .func (PySem.W.fnOf "_law_poly" "_law_poly" (defArgs s_law_poly) (defBody s_law_poly) (defScope s_law_poly) .none kV_law_poly dc_law_poly pm_law_poly an_law_poly cd_law_poly ct_law_poly), sl_law_poly⟩)
    (c_law_poly : PySem.W.codeIn K cd_law_poly "_law_poly" = true)
    (k_law_poly : PySem.W.keepIn K (.ref f_law_poly) = true)
    (a_law_poly_text : PySem.W.nsIn K mainGlobals "_law_poly_text" = some (some (.ref f_law_poly_text)))
    (l_law_poly_text : K.lookup f_law_poly_text = some ⟨oc_law_poly_text, od_law_poly_text, .func (PySem.W.fnOf "_law_poly_text" "_law_poly_text" (defArgs s_law_poly_text) (defBody s_law_poly_text) (defScope s_law_poly_text) .none kV_law_poly_text dc_law_poly_text pm_law_poly_text an_law_poly_text cd_law_poly_text ct_law_poly_text), sl_law_poly_text⟩)
    (c_law_poly_text : PySem.W.codeIn K cd_law_poly_text "_law_poly_text" = true)
    (k_law_poly_text : PySem.W.keepIn K (.ref f_law_poly_text) = true)
    (a_law_order : PySem.W.nsIn K mainGlobals "_law_order" = some (some (.ref f_law_order)))
    (l_law_order : K.lookup f_law_order = some ⟨oc_law_order, od_law_order, .func (PySem.W.fnOf "_law_order" "_law_order" (defArgs s_law_order) (defBody s_law_order) (defScope s_law_order) .none kV_law_order dc_law_order pm_law_order an_law_order cd_law_order ct_law_order), sl_law_order⟩)
    (c_law_order : PySem.W.codeIn K cd_law_order "_law_order" = true)
    (k_law_order : PySem.W.keepIn K (.ref f_law_order) = true)
    (a_law : PySem.W.nsIn K mainGlobals "law" = some (some (.ref f_law)))
    (l_law : K.lookup f_law = some ⟨oc_law, od_law, .func (PySem.W.fnOf "law" "law" (defArgs s_law) (defBody s_law) (defScope s_law) .none kV_law dc_law pm_law an_law cd_law ct_law), sl_law⟩)
    (c_law : PySem.W.codeIn K cd_law "law" = true)
    (k_law : PySem.W.keepIn K (.ref f_law) = true)
    (z_enumerate : PySem.W.nsIn K mainGlobals "enumerate" = some none)
    (z_int : PySem.W.nsIn K mainGlobals "int" = some none)
    (z_isinstance : PySem.W.nsIn K mainGlobals "isinstance" = some none)
    (z_len : PySem.W.nsIn K mainGlobals "len" = some none)
    (z_list : PySem.W.nsIn K mainGlobals "list" = some none)
    (z_range : PySem.W.nsIn K mainGlobals "range" = some none)
    (z_str : PySem.W.nsIn K mainGlobals "str" = some none)
    : ∃ fd : FuncData, (∀ (s : Shared) (v : Value), BindsTo s fd ⟨[v], []⟩ [("script", v)]) ∧ ∀ base : Heap, K.In base → base.Ns mainGlobals mg → FnOk l.prog w K mg base CX0 4 fa fd ["script"] (spLaw K) := by
  have e := hfa.symm.trans (PySem.W.mg_of X G a_law)
  cases e
  have F_show_polynomial := fun_mk (st := s_show_polynomial) l_show_polynomial c_show_polynomial k_show_polynomial
  have b_show_polynomial := F_show_polynomial.binds (ps := ["poly"]) fun _ _ _ _ _ _ us hl => match us, hl with | [_], _ => rfl
  have F_law_deck := fun_mk (st := s_law_deck) l_law_deck c_law_deck k_law_deck
  have b_law_deck := F_law_deck.binds (ps := ["script"]) fun _ _ _ _ _ _ us hl => match us, hl with | [_], _ => rfl
  have F_law_draw := fun_mk (st := s_law_draw) l_law_draw c_law_draw k_law_draw
  have b_law_draw := F_law_draw.binds (ps := ["deck", "many"]) fun _ _ _ _ _ _ us hl => match us, hl with | [_, _], _ => rfl
  have F_law_great := fun_mk (st := s_law_great) l_law_great c_law_great k_law_great
  have b_law_great := F_law_great.binds (ps := ["deck", "many"]) fun _ _ _ _ _ _ us hl => match us, hl with | [_, _], _ => rfl
  have F_law_poly := fun_mk (st := s_law_poly) l_law_poly c_law_poly k_law_poly
  have b_law_poly := F_law_poly.binds (ps := ["deck", "most"]) fun _ _ _ _ _ _ us hl => match us, hl with | [_, _], _ => rfl
  have F_law_poly_text := fun_mk (st := s_law_poly_text) l_law_poly_text c_law_poly_text k_law_poly_text
  have b_law_poly_text := F_law_poly_text.binds (ps := ["entries"]) fun _ _ _ _ _ _ us hl => match us, hl with | [_], _ => rfl
  have F_law_order := fun_mk (st := s_law_order) l_law_order c_law_order k_law_order
  have b_law_order := F_law_order.binds (ps := ["deck", "many"]) fun _ _ _ _ _ _ us hl => match us, hl with | [_, _], _ => rfl
  have F_law := fun_mk (st := s_law) l_law c_law k_law
  have b_law := F_law.binds (ps := ["script"]) fun _ _ _ _ _ _ us hl => match us, hl with | [_], _ => rfl
  let T : Tx K w mg := {  f_show_polynomial := f_show_polynomial, d_show_polynomial := _, F_show_polynomial := F_show_polynomial, b_show_polynomial := b_show_polynomial, g_show_polynomial := PySem.W.mg_of X G a_show_polynomial, f_law_deck := f_law_deck, d_law_deck := _, F_law_deck := F_law_deck, b_law_deck := b_law_deck, g_law_deck := PySem.W.mg_of X G a_law_deck, f_law_draw := f_law_draw, d_law_draw := _, F_law_draw := F_law_draw, b_law_draw := b_law_draw, g_law_draw := PySem.W.mg_of X G a_law_draw, f_law_great := f_law_great, d_law_great := _, F_law_great := F_law_great, b_law_great := b_law_great, g_law_great := PySem.W.mg_of X G a_law_great, f_law_poly := f_law_poly, d_law_poly := _, F_law_poly := F_law_poly, b_law_poly := b_law_poly, g_law_poly := PySem.W.mg_of X G a_law_poly, f_law_poly_text := f_law_poly_text, d_law_poly_text := _, F_law_poly_text := F_law_poly_text, b_law_poly_text := b_law_poly_text, g_law_poly_text := PySem.W.mg_of X G a_law_poly_text, f_law_order := f_law_order, d_law_order := _, F_law_order := F_law_order, b_law_order := b_law_order, g_law_order := PySem.W.mg_of X G a_law_order, f_law := fa, d_law := _, F_law := F_law, b_law := b_law, g_law := PySem.W.mg_of X G a_law, m_enumerate := PySem.W.mg_none_of X G z_enumerate, m_int := PySem.W.mg_none_of X G z_int, m_isinstance := PySem.W.mg_none_of X G z_isinstance, m_len := PySem.W.mg_none_of X G z_len, m_list := PySem.W.mg_none_of X G z_list, m_range := PySem.W.mg_none_of X G z_range, m_str := PySem.W.mg_none_of X G z_str }
  exact ⟨PySem.W.fnOf "law" "law" (defArgs s_law) (defBody s_law) (defScope s_law) .none kV_law dc_law pm_law an_law cd_law ct_law, fun s v => .of_eq rfl, fun base _ _ => ok_law T⟩
end K52
open PySem PySem.W PyProof.Rows
set_option maxHeartbeats 0 in
theorem PySem.Challenge.cw_plandays_k52_texts_of_polynomials_holds : PySem.Challenge.rw_plandays_k52_texts_of_polynomials.Holds := by
  w_on; o_law; k_head; (case hw => w_witness2)
  k_fill
  refine L2.walk_of (l := PySem.Challenge.rw_plandays_k52_texts_of_polynomials) (n := 63) (k := 4) (x := "script") (CX := fun _ => L2.CX0) (sp := fun w => K52.spLaw _) rfl (by decide) rfl ⟨rfl, by decide, by decide⟩ (fun w h Y => PySem.W.kIn_of Y) ?F (fun _ _ a ns hl _ hS => ⟨a, ns, rfl, hS, hl, fun _ => rfl⟩) (fun _ _ _ _ _ h => h)
  case F =>
    intro w mg fa h KX G hmg
    refine' K52.all_mk KX G hmg ?a_show_polynomial ?l_show_polynomial ?c_show_polynomial ?k_show_polynomial ?a_law_deck ?l_law_deck ?c_law_deck ?k_law_deck ?a_law_draw ?l_law_draw ?c_law_draw ?k_law_draw ?a_law_great ?l_law_great ?c_law_great ?k_law_great ?a_law_poly ?l_law_poly ?c_law_poly ?k_law_poly ?a_law_poly_text ?l_law_poly_text ?c_law_poly_text ?k_law_poly_text ?a_law_order ?l_law_order ?c_law_order ?k_law_order ?a_law ?l_law ?c_law ?k_law ?z_enumerate ?z_int ?z_isinstance ?z_len ?z_list ?z_range ?z_str
    (case a_show_polynomial => k_is)
    (case l_show_polynomial => k_is)
    (case c_show_polynomial => k_is)
    (case k_show_polynomial => k_is)
    (case a_law_deck => k_is)
    (case l_law_deck => k_is)
    (case c_law_deck => k_is)
    (case k_law_deck => k_is)
    (case a_law_draw => k_is)
    (case l_law_draw => k_is)
    (case c_law_draw => k_is)
    (case k_law_draw => k_is)
    (case a_law_great => k_is)
    (case l_law_great => k_is)
    (case c_law_great => k_is)
    (case k_law_great => k_is)
    (case a_law_poly => k_is)
    (case l_law_poly => k_is)
    (case c_law_poly => k_is)
    (case k_law_poly => k_is)
    (case a_law_poly_text => k_is)
    (case l_law_poly_text => k_is)
    (case c_law_poly_text => k_is)
    (case k_law_poly_text => k_is)
    (case a_law_order => k_is)
    (case l_law_order => k_is)
    (case c_law_order => k_is)
    (case k_law_order => k_is)
    (case a_law => k_is)
    (case l_law => k_is)
    (case c_law => k_is)
    (case k_law => k_is)
    (case z_enumerate => k_is)
    (case z_int => k_is)
    (case z_isinstance => k_is)
    (case z_len => k_is)
    (case z_list => k_is)
    (case z_range => k_is)
    (case z_str => k_is)

