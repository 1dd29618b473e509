import PyProof.Rows.All
import Wide.All
import OpenK.AllK
import Wide.FinOn
import HandS.ForMost
import HandS.Wide
import HandS.Gcd
import HandS.SetFor
import HandS.Walk
import HandS.FStr
import HandS.Text
import HandS.Zip
import PyProof.StrBlock2
import HandS.Style
import HandS.Conv
import HandS.More
import HandS.Property
import HandS.MakeKwOnly
import HandS.NoneIn
import HandS.OwnEq
import HandS.IsInst
import HandS.Codes
import HandS.Defaults
import KE.KMathGC
import Flt.Len
import PySem.Challenge.RW_plandays_k51_texts_of_patterns
set_option Elab.async false
set_option linter.all false
set_option maxRecDepth 100000
namespace K51
open PySem
open PySem.Spec PyProof.Rows L2
theorem same_upd {H : Hp} {p : Addr} {o : HO} (h : H p = none) : Same H (upd H p o) := fun b x e => by
  rw [upd_ne (ne_of_none e h)]
  exact e
theorem Same.tup {K : PySem.W.Frag} {H H' : Hp} {a : Addr} {xs : List V} (e : Same H H') (h : SqT K H a xs) : SqT K H' a xs := by
  rcases h with (h | ⟨o, h⟩) | h
  · exact .inl (.inl (e _ _ h))
  · exact .inl (.inr ⟨o, e _ _ h⟩)
  · exact .inr h
theorem ixN_nat {n j : Nat} (hj : j < n) : ixN n (j : Int) = some j := by
  unfold ixN
  rw [if_pos (by omega), if_pos (by omega), Int.toNat_natCast]
theorem iteD {c A B : Prop} [Decidable c] (hc : c) (h : A) : if decide c = true then A else B := by
  rw [decide_eq_true hc]
  exact iteT h
theorem iteND {c A B : Prop} [Decidable c] (hc : ¬ c) (h : B) : if decide c = true then A else B := by
  rw [decide_eq_false hc]
  exact iteF h
theorem iteB {b : Bool} {A B : Prop} (hb : b = true) (h : A) : if b = true then A else B := by
  rw [hb]
  exact iteT h
theorem iteNB {b : Bool} {A B : Prop} (hb : b = false) (h : B) : if b = true then A else B := by
  rw [hb]
  exact iteF h
theorem for_enum {K : PySem.W.Frag} {a : Addr} {xs : List V} {g : TG} {tb : TS} {D : Ends} {σ : L2.St} {H : Hp} (Pv : Nat → L2.St → Hp → Prop) (h0 : Pv 0 σ H) (hl : ∀ i σ H, i ≤ xs.length → Pv i σ H → SqL K H a xs)
    (hs : ∀ i x σ H T, xs[i]? = some x → Pv i σ H → H T = none → g (.ref T) σ (upd H T (.tup [.int (i : Nat), x])) fun σ2 H2 => tb { D with nx := Pv (i + 1), ct := Pv (i + 1), bk := D.nx } σ2 H2) (hd : ∀ σ H, Pv xs.length σ H → D.nx σ H) :
    ∃ W : Nat → Nat → L2.St → Hp → Prop, (∃ m, W 0 m σ H) ∧ ∀ i m σ H, W i m σ H →
      ((Ite K a).stop i H ∧ D.nx σ H) ∨ ((Ite K a).go i H ∧ ∃ N : L2.St → Hp → Prop, (∀ σ' H', N σ' H' → ∃ m', m' < m ∧ W (i + 1) m' σ' H') ∧ ∀ x H', (Ite K a).yld i H x H' → g x σ H' fun σ2 H2 => tb { D with nx := N, ct := N, bk := D.nx } σ2 H2) := by
  refine ⟨fun i m σ H => m = xs.length - i ∧ i ≤ xs.length ∧ Pv i σ H, ⟨_, rfl, Nat.zero_le _, h0⟩, ?_⟩
  rintro i m σ H ⟨rfl, hi, p⟩
  have q := hl i σ H hi p
  by_cases hlt : i < xs.length
  · refine .inr ⟨⟨xs, xs[i], q, List.getElem?_eq_getElem hlt⟩, Pv (i + 1), fun σ' H' p' => ⟨xs.length - (i + 1), by omega, rfl, hlt, p'⟩, fun v H' y => ?_⟩
    obtain ⟨T, x, e1, hT, e2, hx⟩ := y
    subst e1 e2
    exact hs i x σ H T (hx xs q) p hT
  · have e : i = xs.length := by omega
    subst e
    exact .inl ⟨⟨xs, q, Nat.le_refl _⟩, hd σ H p⟩
/-! ### range(n) as a value, and walked -/
theorem cr_range1 {X : Cx} : CallR X (.type "range") (fun vs H Q => ∃ j, vs = [V.int j] ∧ ∀ p, H p = none → Q (.ref p) (upd H p (.rng 0 j))) := by
  intro pins s σ H vs us Q I r h
  obtain ⟨j, rfl, q⟩ := h
  obtain ⟨u1, rfl, rj⟩ := vals1 r
  obtain ⟨t, rfl⟩ := rj
  refine call_range_1 ⟨.ref s.heap.objs.size, upd H s.heap.objs.size (.rng 0 j), I.laid (t' := s.toks + 1 + 1) (fun b o e => Heap.get?_push_of_some _ e) (Nat.le_refl _) ?_, rfl, q _ (I.hok.fresh (Nat.le_refl _))⟩
  exact ⟨_, _, _, Heap.get?_push_size _ rfl⟩
def iRngV (tl : TE) : TI := fun σ H R => tl σ H fun x H1 => ∃ (a : Addr) (lo hi : Int), x = .ref a ∧ H1 a = some (.rng lo hi) ∧ (-(2 ^ 62) ≤ lo ∧ lo < 2 ^ 62 ∧ -(2 ^ 62) ≤ hi ∧ hi < 2 ^ 62) ∧ R (Itr lo (hi - lo).toNat) H1
theorem pi_rngV {X : Cx} {tg : Expr} {l : Expr} {tl : TE} (hl : PE X l tl) : PI X tg l (iRngV tl) := by
  refine ⟨fun pins s σ H R I h => ?_⟩
  refine thn (hl.run pins s σ H _ I h) fun v s1 ⟨x, H1, I1, r1, q1⟩ => ?_
  obtain ⟨a, lo, hi, e, hr, ⟨h1, h2, h3, h4⟩, q⟩ := q1
  subst e
  cases r1
  obtain ⟨t, u, w, ho⟩ := I1.hok a _ hr
  refine wpAny_pyIter_range (show IsRange s1.heap a lo hi 1 t u w from ho) (small_one h1 h2 h3 h4) ?_
  refine ⟨s1.heap.objs.size, [s1.heap.objs.size], _, _, H1, rfl, I1.kept (t' := s1.toks) fun b o e => Heap.get?_push_of_some _ e, turn_range _ lo (hi - lo).toNat, ?_, fun b hb => ?_, q⟩
  · have e1 : lo + ((0 : Nat) : Int) * 1 = lo := by simp
    have e2 : (((hi - lo).toNat : Nat) : Int) - ((0 : Nat) : Int) = Builtin.Range.rangeSize lo hi 1 := by rw [rangeSize_one]; split <;> omega
    show IsRangeIter _ _ (lo + ((0 : Nat) : Int) * 1) ((((hi - lo).toNat : Nat) : Int) - ((0 : Nat) : Int)) 1
    rw [e1, e2]
    exact Heap.get?_push_size _ rfl
  · have e : b = s1.heap.objs.size := by simpa using hb
    subst e
    exact I1.fpOk (Nat.le_refl _) (I1.hok.fresh (Nat.le_refl _))
/-- a tuple as a comprehension's target -/
theorem pg_tupK {X : Cx} {K : PySem.W.Frag} (hK : X.K = K) {es : List Expr} {k : Nat} {pos : Pos} {t : TGs} {n : Nat} (hc : X.calm = true) (h : PGs X es t)
    (hn : (assignEach es X.env).length = n := by rfl) (hst : (assignEach es X.env).findIdx? (·.1) = none := by rfl) : PG X (.Tuple es k pos) (gTup K n t) := by
  subst hK
  exact pg_tup hc h hn hst
/-- an f-string's reading, named -/
def tJoined (ts : List TE) : TE := fun σ H Q => tJs ts Str.empty σ H fun out H1 => Q (.str out) H1
theorem pe_joinedN {X : Cx} {v1 v2 : Expr} {rest : List Expr} {ts : List TE} {pos : Pos} (h : PJ X (v1 :: v2 :: rest) ts) : PE X (.JoinedStr (v1 :: v2 :: rest) pos) (tJoined ts) := pe_joined h
theorem cut_take (xs : List V) (i : Nat) : cutV xs none (some (i : Int)) = xs.take i := by
  unfold cutV
  rw [HT.sIx_none, show HT.sIx xs.length xs.length (some (i : Int)) = min i xs.length from HT.sIx_nat _ _ i, List.drop_zero, Nat.sub_zero]
  by_cases h : i ≤ xs.length
  · rw [Nat.min_eq_left h]
  · rw [Nat.min_eq_right (by omega), List.take_of_length_le (Nat.le_refl _), List.take_of_length_le (by omega)]
theorem cut_drop (xs : List V) (i : Nat) : cutV xs (some (i : Int)) none = xs.drop i := by
  unfold cutV
  rw [HT.sIx_none, show HT.sIx xs.length 0 (some (i : Int)) = min i xs.length from HT.sIx_nat _ _ i]
  by_cases h : i ≤ xs.length
  · rw [Nat.min_eq_left h]
    exact List.take_of_length_le (by rw [List.length_drop]; exact Nat.le_refl _)
  · rw [Nat.min_eq_right (by omega), Nat.sub_self, List.take_zero, List.drop_eq_nil_of_le (by omega)]
/-- a text so many times -/
theorem op_mulS {X : Cx} : OpR X (binaryOp .Mult) (fun x y H Q => ∃ (z : Str) (n : Int), x = .str z ∧ y = .int n ∧ MulOk z n ∧ Q (.str (Txt.mul z n)) H) := by
  intro pins s σ H x y v u Q I rx ry h
  obtain ⟨z, n, rfl, rfl, c, q⟩ := h
  obtain ⟨t, rfl⟩ := rx
  obtain ⟨t2, rfl⟩ := ry
  exact PySem.SB.mul c fun t' k => ⟨.str _, H, I.tok k, ⟨t', rfl⟩, q⟩
/-! ### a module's dict of whole numbers to texts -/
def IEs : List DictEntry → List (Int × Str) → Prop
  | [], [] => True
  | e :: r, kz :: s => ((∃ t, e.key = .int kz.1 t) ∧ e.hash = hashInt kz.1 ∧ ∃ u, e.val = .str kz.2 u) ∧ IEs r s
  | _, _ => False
theorem IEs.all : ∀ {es : List DictEntry} {kvs : List (Int × Str)}, IEs es kvs → ∀ e ∈ es, ∃ k t, e.key = .int k t ∧ e.hash = hashInt k
  | [], [], _, e, he => absurd he List.not_mem_nil
  | e :: r, kz :: s, ⟨⟨⟨t, h1⟩, h2, _⟩, hr⟩, e', he => by
    rcases List.mem_cons.mp he with rfl | m
    · exact ⟨kz.1, t, h1, h2⟩
    · exact hr.all e' m
theorem IEs.find : ∀ {es : List DictEntry} {kvs : List (Int × Str)}, IEs es kvs → ∀ {k : Int} {z : Str}, kvs.lookup k = some z → ∃ u, (es.find? fun d => Value.isInt k d.key).map (·.val) = some (.str z u)
  | [], [], _, k, z, h => by cases h
  | e :: r, kz :: s, ⟨⟨⟨t, h1⟩, h2, u, h3⟩, hr⟩, k, z, h => by
    obtain ⟨k0, z0⟩ := kz
    rw [List.lookup_cons] at h
    by_cases q : k = k0
    · subst q
      have e1 : (k == k) = true := by simp
      rw [e1] at h
      cases h
      refine ⟨u, ?_⟩
      rw [List.find?_cons, h1]
      simp [Value.isInt, h3]
    · have e1 : (k == k0) = false := by simp [q]
      rw [e1] at h
      obtain ⟨u2, h5⟩ := hr.find h
      refine ⟨u2, ?_⟩
      rw [List.find?_cons, h1]
      have e2 : Value.isInt k (.int k0 t) = false := by
        simp [Value.isInt]
        omega
      rw [e2]
      exact h5
def IDict (K : PySem.W.Frag) (d : Addr) (kvs : List (Int × Str)) : Prop := ∃ es n, K.lookup d = some ⟨.type "dict", none, .dict es n, #[]⟩ ∧ IEs es.toList kvs
theorem ix_idict {X : Cx} {d : Addr} {kvs : List (Int × Str)} (D : IDict X.K d kvs) : IxR X (fun x y H Q => ∃ (k : Int) (z : Str), x = .ref d ∧ y = .int k ∧ kvs.lookup k = some z ∧ Q (.str z) H) := by
  intro value slice pins s σ H x y v u Q I rx ry h hs
  obtain ⟨k, z, rfl, rfl, e, q⟩ := h
  obtain ⟨es, n, hl, hk⟩ := D
  obtain rfl : v = Value.ref d := rx
  obtain ⟨t, rfl⟩ := ry
  have hm : s.heap.MapOf (intKind X.prog X.w) d (fun k => findBy Value.isInt es k) := ⟨_, es, n, I.kIn _ _ hl, ⟨rfl, rfl, rfl⟩, rfl, fun e he => by
    obtain ⟨k, t, e1, e2⟩ := hk.all e (Array.mem_toList_iff.mpr he)
    exact ⟨k, by rw [e1]; exact intKind_is X.prog X.w k t, e2⟩, fun _ => rfl⟩
  obtain ⟨u2, hf⟩ := hk.find e
  have hf2 : findBy Value.isInt es k = some (.str z u2) := by
    unfold findBy
    rw [← hf]
    obtain ⟨l⟩ := es
    rw [List.find?_toArray]
  exact tail_any hm.typeIs slot_dict_getitem.lookup (wpAny_getItem_of (intKind_is X.prog X.w k t) hm hf2 ⟨.str z, H, I.tok _, ⟨_, rfl⟩, q⟩) hs
/-! ### walks and joins within a comprehension: K given -/
theorem pi_listK {X : Cx} {K : PySem.W.Frag} (hK : X.K = K) {tg l : Expr} {tl : TE} (hl : PE X l tl) : PI X tg l (iList K tl) := by
  subst hK
  exact pi_list hl
theorem pi_tupK {X : Cx} {K : PySem.W.Frag} (hK : X.K = K) {tg l : Expr} {tl : TE} (hl : PE X l tl) : PI X tg l (iTup K tl) := by
  subst hK
  exact pi_tup hl
theorem pi_enumK {X : Cx} {K : PySem.W.Frag} (hK : X.K = K) {e : Expr} {ta : TA} {p pos tpos : Pos} {elts : List Expr} {kk : Nat} (hg : Gl X "enumerate") (hm : X.mg "enumerate" = none) (ha : PA X [e] ta) (hs : starEach [e] X.env = [(false, eval e X.env)] := by rfl) :
    PI X (.Tuple elts kk tpos) (.Call (.Name "enumerate" p) [e] [] pos) (iEnum K ta) := by
  subst hK
  exact pi_enum hg hm ha hs
theorem pi_zipK {X : Cx} {K : PySem.W.Frag} (hK : X.K = K) {e e2 : Expr} {ta : TA} {p pos tpos : Pos} {elts : List Expr} {kk : Nat} (hg : Gl X "zip") (hm : X.mg "zip" = none) (ha : PA X [e, e2] ta)
    (hs : starEach [e, e2] X.env = (false, eval e X.env) :: starEach [e2] X.env := by rfl) (hpl : (backTo pos (starEach [e2] X.env)).any (·.1) = false := by rfl) :
    PI X (.Tuple elts kk tpos) (.Call (.Name "zip" p) [e, e2] [] pos) (iZip K ta) := by
  subst hK
  exact pi_zip hg hm ha hs hpl
def tJoin (K : PySem.W.Frag) (to te : TE) : TE := tM1 (fun x xs H Q => ∃ a p, ∃ ys : List Str, x = .str a ∧ xs = [.ref p] ∧ (SqL K H p (ys.map V.str) ∨ SqT K H p (ys.map V.str)) ∧
      (ys.map (·.length)).sum + ys.length * a.length ≤ 16777216 ∧ Q (.str (Txt.join a ys)) H) to te
theorem pe_joinK {X : Cx} {K : PySem.W.Frag} (hK : X.K = K) {o e : Expr} {to te : TE} {apos pos : Pos} (ho : PE X o to) (he : PE X e te) (hs : starEach [e] X.env = [(false, eval e X.env)] := by rfl)
    (hbase : attributeBase o "join" X.env (eval o X.env) = eval o X.env := by rfl) (hline : (apos.endLine == pos.line) = true := by rfl) :
    PE X (.Call (.Attribute o "join" apos) [e] [] pos) (tJoin K to te) := by
  subst hK
  exact pe_join ho he hs hbase hline
theorem pe_callN0 {X : Cx} {CX : CXT} {k : Nat} {f : Addr} {fd : FuncData} {ps ks : List Str} {sp : Sp} {E : XK} {x : Str} {p pos : Pos} {kws : List Keyword} {tk : TA} {g : List Value → List Value → List Value} {gV : List V → List V → List V}
    (F : FnOk X.prog X.w X.K X.mg X.base CX k f fd ps sp) (hr : Room k X.A) (hg : Gl X x) (hm : X.mg x = some (.ref f)) (kp : PySem.W.keepIn X.K (.ref f) = true) (hb : KBn X.K fd ps 0 ks g gV) (hx : Passes CX X E) (hkw : PK X kws tk)
    (h1 : (backToKw pos (keywordEach kws X.env)).all (·.1.isSome) = true := by rfl) (h2 : (backToKw pos (keywordEach kws X.env)).filterMap (·.1) = ks := by rfl) (h3 : (x == ("__debug__" : Str)) = false := by decide)
    (h4 : ((backTo pos (starEach [] X.env)).any (·.1) || (backToKw pos (keywordEach kws X.env)).any (·.1.isNone)) = false := by rfl) :
    PE X (.Call (.Name x p) [] kws pos) (tCallN 0 ks.length sp gV E tNil tk) := by
  refine ⟨fun pins s σ H Q I h => wpAny_Call_Name_kw (ld_glob I hg hm ?_ h3)⟩
  refine PySem.W.callWith_KW0 (h₀ := X.base) I.ok.mod.kin kp h1 ?_ h4
  refine thn (hkw.run pos pins s σ H _ I h) fun ws s2 ⟨zs, H2, I2, rz, l1, l2, q2⟩ => ⟨I2.kIn, ?_⟩
  rw [h2]
  exact run_fnN (us := []) (vs := []) F hr hb hx I2 .nil rz rfl l2 q2
theorem dp_ints {K : PySem.W.Frag} {H : Hp} : ∀ {ns : List Int}, DpAll K H (ns.map V.int) (ns.map PyData.int)
  | [] => .nil
  | _ :: _ => .cons (.int _) dp_ints
theorem lay_ints : ∀ (ns : List Int), PyData.canLayAll0 (ns.map PyData.int) = true
  | [] => rfl
  | _ :: r => by
    show (true && PyData.canLayAll0 (r.map PyData.int)) = true
    rw [lay_ints r]; rfl
theorem depth_ints : ∀ (ns : List Int), PyData.depthAll (ns.map PyData.int) ≤ 1
  | [] => by simp [PyData.depthAll]
  | a :: r => by
    have := depth_ints r
    simp only [List.map_cons, PyData.depthAll, PyData.depth]
    omega
theorem list_ok (ns : List Int) : SeqAt.shaped (.list (ns.map PyData.int)) = true := by
  unfold SeqAt.shaped
  rw [Bool.and_eq_true]
  have h := depth_ints ns
  exact ⟨lay_ints ns, decide_eq_true (by simp only [PyData.depth]; omega)⟩
def rList (K : PySem.W.Frag) : List V → Hp → VK → Prop := fun xs H Q => ∃ p ys, xs = [.ref p] ∧ (SqL K H p ys ∨ SqT K H p ys) ∧ ∀ l, H l = none → Q (.ref l) (upd H l (.lst ys))
def rLen (K : PySem.W.Frag) : List V → Hp → VK → Prop := fun xs H Q => ∃ p ys, xs = [.ref p] ∧ (SqL K H p ys ∨ SqT K H p ys) ∧ Q (.int ys.length) H
theorem pe_fldK {X : Cx} {K : PySem.W.Frag} (hK : X.K = K) {e : Expr} {f : Str} {pos : Pos} {ta : TE} (he : PE X e ta) (hb : attributeBase e f X.env (eval e X.env) = eval e X.env) : PE X (.Attribute e f pos) (tFld K ta f) := by
  subst hK
  exact pe_fld he hb
theorem pe_bmK {X : Cx} {K : PySem.W.Frag} (hK : X.K = K) {o e : Expr} {es : List Expr} {to : TE} {t : TA} {name : Str} {apos cpos : Pos} {T id : String} {r : V → List V → Hp → VK → Prop}
    (pa : PlainAttrs T) (slot : Slot T name id) (ty : typeOf (.builtin id) = pure (.type "method_descriptor")) (hm : MtR X id r) (ho : PE X o to) (ha : PA X (e :: es) t)
    (h1 : attributeBase o name X.env (eval o X.env) = eval o X.env := by rfl)
    (h2 : ((backTo cpos (starEach (e :: es) X.env)).all (fun x => !x.1) && (backToKw cpos (keywordEach [] X.env)).all (fun x => x.1.isSome) && decide ((e :: es).length + ([] : List Keyword).length + (if ([] : List Keyword).isEmpty then 0 else 1) < 30)) = true := by rfl)
    (h3 : (apos.endLine == cpos.line) = true := by rfl) (h4 : starEach (e :: es) X.env = (false, eval e X.env) :: starEach es X.env := by rfl) (h5 : (backTo cpos (starEach es X.env)).any (·.1) = false := by rfl) :
    PE X (.Call (.Attribute o name apos) (e :: es) [] cpos) (tBM K T r to t) := by
  subst hK
  exact pe_bm pa slot ty hm ho ha h1 h2 h3 h4 h5
def topS (i : Nat) : Stmt := PySem.Challenge.pw_plandays_k51_texts_of_patterns.main.body.getD i (.Pass ⟨0, 0, 0, 0⟩)
abbrev s_show_pattern : Stmt := topS 2
theorem sc_show_pattern : FnScope ["pattern", "start", "groups", "steps", "end", "shown", "later", "group", "entry", "step"] ["pattern"] (defScope s_show_pattern) := ⟨rfl, rfl, rfl, by decide +kernel, rfl, by decide +kernel, by decide +kernel⟩
abbrev s_law_deck : Stmt := topS 4
theorem sc_law_deck : FnScope ["script", "mixed", "cell", "great"] ["script"] (defScope s_law_deck) := ⟨rfl, rfl, rfl, by decide +kernel, rfl, by decide +kernel, by decide +kernel⟩
abbrev s_law_draw : Stmt := topS 5
theorem sc_law_draw : FnScope ["deck", "many", "one"] ["deck", "many"] (defScope s_law_draw) := ⟨rfl, rfl, rfl, by decide +kernel, rfl, by decide +kernel, by decide +kernel⟩
abbrev s_law_great : Stmt := topS 6
theorem sc_law_great : FnScope ["deck", "many", "one", "k"] ["deck", "many"] (defScope s_law_great) := ⟨rfl, rfl, rfl, by decide +kernel, rfl, by decide +kernel, by decide +kernel⟩
abbrev s_law_pattern : Stmt := topS 7
theorem sc_law_pattern : FnScope ["deck", "wide", "top", "groups", "k", "steps", "m", "group"] ["deck"] (defScope s_law_pattern) := ⟨rfl, rfl, rfl, by decide +kernel, rfl, by decide +kernel, by decide +kernel⟩
abbrev s_law_pattern_text : Stmt := topS 8
theorem sc_law_pattern_text : FnScope ["form", "words", "line", "at", "step", "group", "task"] ["form"] (defScope s_law_pattern_text) := ⟨rfl, rfl, rfl, by decide +kernel, rfl, by decide +kernel, by decide +kernel⟩
abbrev s_law_copied : Stmt := topS 9
theorem sc_law_copied : FnScope ["form", "group"] ["form"] (defScope s_law_copied) := ⟨rfl, rfl, rfl, by decide +kernel, rfl, by decide +kernel, by decide +kernel⟩
abbrev s_law_order : Stmt := topS 10
theorem sc_law_order : FnScope ["deck", "many", "left", "k"] ["deck", "many"] (defScope s_law_order) := ⟨rfl, rfl, rfl, by decide +kernel, rfl, by decide +kernel, by decide +kernel⟩
abbrev s_law : Stmt := topS 11
theorem sc_law : FnScope ["script", "deck", "rows", "at", "handed", "line", "changed", "k"] ["script"] (defScope s_law) := ⟨rfl, rfl, rfl, by decide +kernel, rfl, by decide +kernel, by decide +kernel⟩
/-- what the top has written, as the walks ask it -/
structure Tx (K : PySem.W.Frag) (w : World) (mg : Str → Option Value) where
  d__SIGNS : Addr
  g__SIGNS : mg "_SIGNS" = some (.ref d__SIGNS)
  id__SIGNS : IDict K d__SIGNS [(1, " < "), (2, " << ")]
  f_show_pattern : Addr
  d_show_pattern : FuncData
  F_show_pattern : Fun K "show_pattern" "show_pattern" s_show_pattern f_show_pattern d_show_pattern
  b_show_pattern : Binds K d_show_pattern ["pattern"] []
  g_show_pattern : mg "show_pattern" = some (.ref f_show_pattern)
  f_law_deck : Addr
  d_law_deck : FuncData
  F_law_deck : Fun K "_law_deck" "_law_deck" s_law_deck f_law_deck d_law_deck
  b_law_deck : Binds K d_law_deck ["script"] []
  g_law_deck : mg "_law_deck" = some (.ref f_law_deck)
  f_law_draw : Addr
  d_law_draw : FuncData
  F_law_draw : Fun K "_law_draw" "_law_draw" s_law_draw f_law_draw d_law_draw
  b_law_draw : Binds K d_law_draw ["deck", "many"] []
  g_law_draw : mg "_law_draw" = some (.ref f_law_draw)
  f_law_great : Addr
  d_law_great : FuncData
  F_law_great : Fun K "_law_great" "_law_great" s_law_great f_law_great d_law_great
  b_law_great : Binds K d_law_great ["deck", "many"] []
  g_law_great : mg "_law_great" = some (.ref f_law_great)
  f_law_pattern : Addr
  d_law_pattern : FuncData
  F_law_pattern : Fun K "_law_pattern" "_law_pattern" s_law_pattern f_law_pattern d_law_pattern
  b_law_pattern : Binds K d_law_pattern ["deck"] []
  g_law_pattern : mg "_law_pattern" = some (.ref f_law_pattern)
  f_law_pattern_text : Addr
  d_law_pattern_text : FuncData
  F_law_pattern_text : Fun K "_law_pattern_text" "_law_pattern_text" s_law_pattern_text f_law_pattern_text d_law_pattern_text
  b_law_pattern_text : Binds K d_law_pattern_text ["form"] []
  g_law_pattern_text : mg "_law_pattern_text" = some (.ref f_law_pattern_text)
  f_law_copied : Addr
  d_law_copied : FuncData
  F_law_copied : Fun K "_law_copied" "_law_copied" s_law_copied f_law_copied d_law_copied
  b_law_copied : Binds K d_law_copied ["form"] []
  g_law_copied : mg "_law_copied" = some (.ref f_law_copied)
  f_law_order : Addr
  d_law_order : FuncData
  F_law_order : Fun K "_law_order" "_law_order" s_law_order f_law_order d_law_order
  b_law_order : Binds K d_law_order ["deck", "many"] []
  g_law_order : mg "_law_order" = some (.ref f_law_order)
  f_law : Addr
  d_law : FuncData
  F_law : Fun K "law" "law" s_law f_law d_law
  b_law : Binds K d_law ["script"] []
  g_law : mg "law" = some (.ref f_law)
  m_enumerate : mg "enumerate" = none
  m_int : mg "int" = none
  m_isinstance : mg "isinstance" = none
  m_len : mg "len" = none
  m_list : mg "list" = none
  m_range : mg "range" = none
  m_str : mg "str" = none
  m_zip : mg "zip" = none
section
variable {P : Program} {w : World} {K : PySem.W.Frag} {mg : Str → Option Value} {base : Heap}
/-! ### patterns and their texts -/
theorem pickI {ms : List Int} {w : Int} (h0 : 0 ≤ w) (h1 : w < ms.length) : ∃ m, m ∈ ms ∧ (ms.map V.int)[w.toNat]? = some (V.int m) := by
  have h : w.toNat < ms.length := by omega
  exact ⟨ms[w.toNat], List.getElem_mem h, by rw [List.getElem?_map, List.getElem?_eq_getElem h]; rfl⟩
structure Pat where
  st : Int
  gs : List (List Int)
  ss : List Int
  en : Int
structure PatOk (x : Pat) : Prop where
  len : x.gs.length = x.ss.length + 1
  few : x.ss.length ≤ 20
  gr : ∀ g ∈ x.gs, 1 ≤ g.length ∧ g.length ≤ 20 ∧ ∀ n ∈ g, n.natAbs < 2 ^ 200
  sg : ∀ s ∈ x.ss, s = 1 ∨ s = 2
  s0 : x.st = 0 ∨ x.st = 1
  e0 : x.en = 0 ∨ x.en = 1
def istr (n : Int) : Str := Str.ofString (toString n)
def gT (g : List Int) : Str := Txt.join (Str.ofString "=") (g.map istr)
def sgn (s : Int) : Str := if s = 1 then Str.ofString " < " else Str.ofString " << "
def laters (x : Pat) (n : Nat) : List Str := (List.range n).map fun i => sgn (x.ss.getD i 0) ++ gT (x.gs.getD (i + 1) [])
theorem laters_succ (x : Pat) (n : Nat) : laters x (n + 1) = laters x n ++ [sgn (x.ss.getD n 0) ++ gT (x.gs.getD (n + 1) [])] := by
  unfold laters
  rw [List.range_succ, List.map_append]
  rfl
def pre (s : Int) : Str := if s = 1 then Str.ofString ". " else Str.ofString ""
def post (s : Int) : Str := if s = 1 then Str.ofString " ." else Str.ofString ""
def patT (x : Pat) : Str := ((pre x.st ++ gT (x.gs.getD 0 [])) ++ Txt.join (Str.ofString "") (laters x x.ss.length)) ++ post x.en
def lineT (x : Pat) : Nat → Str
  | 0 => gT (x.gs.getD 0 [])
  | n + 1 => (((lineT x n ++ Str.ofString " ") ++ Txt.mul (Str.ofString "<") (x.ss.getD n 0)) ++ Str.ofString " ") ++ gT (x.gs.getD (n + 1) [])
theorem l_app (x y : Str) : (x ++ y).cps.toList = x.cps.toList ++ y.cps.toList := TL.tl_append x y
theorem str_ext {x y : Str} (h : x.cps.toList = y.cps.toList) : x = y := by
  obtain ⟨⟨a⟩⟩ := x
  obtain ⟨⟨b⟩⟩ := y
  have : a = b := h
  rw [this]
theorem joinL_nil : ∀ L : List (List Nat), TL.joinL [] L = L.flatten
  | [] => rfl
  | [p] => by simp [TL.joinL]
  | p :: q :: r => by
    have ih := joinL_nil (q :: r)
    show p ++ ([] ++ TL.joinL [] (q :: r)) = _
    rw [ih]
    rfl
theorem l_join0 (ls : List Str) : (Txt.join (Str.ofString "") ls).cps.toList = (ls.map fun z => z.cps.toList).flatten := by
  rw [TL.join_eq]
  show TL.tl _ = _
  rw [TL.tl_join, show TL.tl (Str.ofString "") = [] from by decide +kernel, joinL_nil]
theorem mul_sgn {s : Int} (h : s = 1 ∨ s = 2) : ((Str.ofString " ").cps.toList ++ ((Txt.mul (Str.ofString "<") s).cps.toList ++ (Str.ofString " ").cps.toList)) = (sgn s).cps.toList := by
  rcases h with rfl | rfl <;> decide +kernel
theorem mul_pre {s : Int} (h : s = 0 ∨ s = 1) : Txt.mul (Str.ofString ". ") s = pre s := by rcases h with rfl | rfl <;> decide +kernel
theorem mul_post {s : Int} (h : s = 0 ∨ s = 1) : Txt.mul (Str.ofString " .") s = post s := by rcases h with rfl | rfl <;> decide +kernel
theorem mul_ok1 {s : Int} (h : s = 1 ∨ s = 2) : MulOk (Str.ofString "<") s := by
  rcases h with rfl | rfl <;> exact ⟨by decide +kernel, by decide +kernel, by decide +kernel⟩
theorem mul_ok2 {s : Int} (h : s = 0 ∨ s = 1) : MulOk (Str.ofString ". ") s := by
  rcases h with rfl | rfl <;> exact ⟨by decide +kernel, by decide +kernel, by decide +kernel⟩
theorem mul_ok3 {s : Int} (h : s = 0 ∨ s = 1) : MulOk (Str.ofString " .") s := by
  rcases h with rfl | rfl <;> exact ⟨by decide +kernel, by decide +kernel, by decide +kernel⟩
theorem sgn_mem {x : Pat} (ok : PatOk x) {n : Nat} (h : n < x.ss.length) : x.ss.getD n 0 = 1 ∨ x.ss.getD n 0 = 2 := by
  rw [List.getD_eq_getElem?_getD, List.getElem?_eq_getElem h]
  exact ok.sg _ (List.getElem_mem h)
theorem line_l {x : Pat} (ok : PatOk x) : ∀ n : Nat, n ≤ x.ss.length → (lineT x n).cps.toList = (gT (x.gs.getD 0 [])).cps.toList ++ ((laters x n).map fun z => z.cps.toList).flatten
  | 0, _ => by simp [lineT, laters]
  | n + 1, h => by
    have ih := line_l ok n (by omega)
    have hs := mul_sgn (sgn_mem ok (n := n) (by omega))
    rw [laters_succ, List.map_append, List.flatten_append]
    show ((((lineT x n ++ _) ++ _) ++ _) ++ _ : Str).cps.toList = _
    rw [l_app, l_app, l_app, l_app, ih]
    simp only [List.map_cons, List.map_nil, List.flatten_cons, List.flatten_nil, List.append_nil, l_app]
    rw [← hs]
    simp only [List.append_assoc]
theorem text_eq {x : Pat} (ok : PatOk x) : (Txt.mul (Str.ofString ". ") x.st ++ lineT x x.ss.length) ++ Txt.mul (Str.ofString " .") x.en = patT x := by
  rw [mul_pre ok.s0, mul_post ok.e0]
  refine str_ext ?_
  unfold patT
  rw [l_app, l_app, l_app, l_app, l_app, line_l ok _ (Nat.le_refl _), l_join0, List.append_assoc, List.append_assoc, List.append_assoc, List.append_assoc]
theorem log200 {a : Int} (h : a.natAbs < 2 ^ 200) : a.natAbs.log2 < 1920 := by
  have h2 : a.natAbs.log2 < 200 := PySem.Flt.log2_lt_of (by decide) h
  omega
theorem istr_len {n : Int} (h : n.natAbs < 2 ^ 200) : (istr n).length ≤ 1921 := PyProof.Rows.int_text_len_1921 (log200 h)
theorem sum_istr : ∀ (g : List Int), (∀ n ∈ g, n.natAbs < 2 ^ 200) → ((g.map istr).map (·.length)).sum ≤ g.length * 1921
  | [], _ => Nat.le_refl _
  | a :: r, h => by
    have ih := sum_istr r fun n hn => h n (List.mem_cons_of_mem _ hn)
    have h1 := istr_len (h a List.mem_cons_self)
    rw [List.map_cons, List.map_cons, List.sum_cons, List.length_cons]
    omega
theorem eq_len : (Str.ofString "=").length = 1 := by decide +kernel
theorem g_room {g : List Int} (h : ∀ n ∈ g, n.natAbs < 2 ^ 200) (hl : g.length ≤ 20) : ((g.map istr).map (·.length)).sum + (g.map istr).length * (Str.ofString "=").length ≤ 16777216 := by
  have := sum_istr g h
  rw [eq_len, List.length_map]
  omega
theorem len_join (y : Str) : ∀ ls : List Str, (Txt.join y ls).length ≤ (ls.map (·.length)).sum + ls.length * y.length := fun ls => by
  rw [TL.join_eq]
  induction ls with
  | nil => exact Nat.zero_le _
  | cons a r ih =>
    cases r with
    | nil =>
      show a.length ≤ _
      simp
    | cons b r =>
      show (a ++ y ++ Str.join y (b :: r)).length ≤ _
      rw [Str.length_append, Str.length_append, List.map_cons, List.sum_cons, List.length_cons]
      have : ((b :: r).length + 1) * y.length = (b :: r).length * y.length + y.length := Nat.succ_mul _ _
      omega
theorem gT_len {g : List Int} (h : ∀ n ∈ g, n.natAbs < 2 ^ 200) (hl : g.length ≤ 20) : (gT g).length ≤ 40000 := by
  have h1 := len_join (Str.ofString "=") (g.map istr)
  have h2 := sum_istr g h
  rw [eq_len, List.length_map] at h1
  unfold gT
  omega
theorem gT_at {x : Pat} (ok : PatOk x) (i : Nat) : (gT (x.gs.getD i [])).length ≤ 40000 := by
  rw [List.getD_eq_getElem?_getD]
  cases h : x.gs[i]? with
  | none => exact Nat.zero_le _
  | some g =>
    obtain ⟨_, h2, h3⟩ := ok.gr g (List.mem_of_getElem? h)
    exact gT_len h3 h2
theorem sgn_len (s : Int) : (sgn s).length ≤ 4 := by
  unfold sgn
  split
  · exact (by decide +kernel : (Str.ofString " < ").length ≤ 4)
  · exact (by decide +kernel : (Str.ofString " << ").length ≤ 4)
theorem laters_sum {x : Pat} (ok : PatOk x) : ∀ n : Nat, ((laters x n).map (·.length)).sum ≤ n * 40004
  | 0 => Nat.le_refl _
  | n + 1 => by
    have ih := laters_sum ok n
    have h1 := gT_at ok (n + 1)
    have h2 := sgn_len (x.ss.getD n 0)
    rw [laters_succ, List.map_append, List.sum_append]
    simp only [List.map_cons, List.map_nil, List.sum_cons, List.sum_nil, Str.length_append]
    omega
theorem laters_len (x : Pat) (n : Nat) : (laters x n).length = n := by
  unfold laters
  rw [List.length_map, List.length_range]
theorem e_len : (Str.ofString "").length = 0 := by decide +kernel
theorem laters_room {x : Pat} (ok : PatOk x) : ((laters x x.ss.length).map (·.length)).sum + (laters x x.ss.length).length * (Str.ofString "").length ≤ 16777216 := by
  have h1 := laters_sum ok x.ss.length
  have h2 := ok.few
  rw [e_len, Nat.mul_zero]
  have : x.ss.length * 40004 ≤ 20 * 40004 := Nat.mul_le_mul_right _ h2
  omega
theorem later_len {x : Pat} (ok : PatOk x) : (Txt.join (Str.ofString "") (laters x x.ss.length)).length ≤ 1000000 := by
  have h0 := len_join (Str.ofString "") (laters x x.ss.length)
  have h1 := laters_sum ok x.ss.length
  have h2 := ok.few
  rw [e_len, Nat.mul_zero] at h0
  have : x.ss.length * 40004 ≤ 20 * 40004 := Nat.mul_le_mul_right _ h2
  omega
theorem pre_len (s : Int) : (pre s).length ≤ 2 := by
  unfold pre
  split
  · exact (by decide +kernel : (Str.ofString ". ").length ≤ 2)
  · exact (by decide +kernel : (Str.ofString "").length ≤ 2)
theorem post_len (s : Int) : (post s).length ≤ 2 := by
  unfold post
  split
  · exact (by decide +kernel : (Str.ofString " .").length ≤ 2)
  · exact (by decide +kernel : (Str.ofString "").length ≤ 2)
theorem mulS_len {s : Int} (h : s = 1 ∨ s = 2) : (Txt.mul (Str.ofString "<") s).length ≤ 2 := by
  rcases h with rfl | rfl <;> decide +kernel
theorem sp_len : (Str.ofString " ").length = 1 := by decide +kernel
theorem line_len {x : Pat} (ok : PatOk x) : ∀ n : Nat, n ≤ x.ss.length → (lineT x n).length ≤ 40000 + n * 40004
  | 0, _ => gT_at ok 0
  | n + 1, h => by
    have ih := line_len ok n (by omega)
    have h1 := gT_at ok (n + 1)
    have h2 := mulS_len (sgn_mem ok (n := n) (by omega))
    show ((((lineT x n ++ _) ++ _) ++ _) ++ _ : Str).length ≤ _
    rw [Str.length_append, Str.length_append, Str.length_append, Str.length_append, sp_len]
    omega
/-- a pattern in the heap, its lists named -/
def PatX (H : Hp) (u : Addr) (x : Pat) (G S : Addr) (ps : List Addr) : Prop := H u = some (.tup [.int x.st, .ref G, .ref S, .int x.en]) ∧ H G = some (.lst (ps.map V.ref)) ∧ H S = some (.lst (x.ss.map V.int)) ∧ ps.length = x.gs.length ∧
  ∀ (i : Nat) (p : Addr) (g : List Int), ps[i]? = some p → x.gs[i]? = some g → H p = some (.lst (g.map V.int))
def PatH (H : Hp) (u : Addr) (x : Pat) : Prop := ∃ (G S : Addr) (ps : List Addr), PatX H u x G S ps
theorem PatX.same {H H' : Hp} {u : Addr} {x : Pat} {G S : Addr} {ps : List Addr} (h : PatX H u x G S ps) (s : Same H H') : PatX H' u x G S ps :=
  ⟨s _ _ h.1, s _ _ h.2.1, s _ _ h.2.2.1, h.2.2.2.1, fun i p g h1 h2 => s _ _ (h.2.2.2.2 i p g h1 h2)⟩
theorem PatX.h {H : Hp} {u : Addr} {x : Pat} {G S : Addr} {ps : List Addr} (h : PatX H u x G S ps) : PatH H u x := ⟨G, S, ps, h⟩
def sp_show : Sp := fun vs H Q _ => ∃ (u : Addr) (x : Pat), vs = [.ref u] ∧ PatH H u x ∧ PatOk x ∧ ∀ H', Same H H' → Q (.str (patT x)) H'
theorem ok_show_pattern (T : Tx K w mg) : FnOk P w K mg base CX0 1 T.f_show_pattern T.d_show_pattern ["pattern"] sp_show := by
  refine T.F_show_pattern.ok sc_show_pattern (fun vs H Q E h => ?_) (fun cdv A outer s H vs Q E hr h => ?_)
  · obtain ⟨u, x, rfl, _⟩ := h
    rfl
  · obtain ⟨u, x, rfl, ⟨G, S, ps, hu, hG, hS, pl, hp⟩, ok, k⟩ := h
    refine ⟨_,
    (pss_cons
      (ps_asg (pv 0) (pg_tup (by rfl) (pgs_cons (pg_name (i := 1) sc_show_pattern.nd rfl (.inl rfl)) (pgs_cons (pg_name (i := 2) sc_show_pattern.nd rfl (.inl rfl)) (pgs_cons (pg_name (i := 3) sc_show_pattern.nd rfl (.inl rfl)) (pgs_cons (pg_name (i := 4) sc_show_pattern.nd rfl (.inl rfl)) pgs_nil))))))
    (pss_cons
      (ps_setLc (i := 5) (own := [("group", 7)]) (g := gName 7) rfl sc_show_pattern.nd rfl rfl (sw_true rfl rfl rfl (by decide +kernel)) (pi_list (pv 2)) (blkOk_by (N := ["pattern", "start", "groups", "steps", "end", "shown", "later", "group", "entry", "step"]) (sc := defScope s_show_pattern) (own := [("group", 7)]) (by decide +kernel)) (fun _ _ _ _ _ => (pg_name (i := 7) sc_show_pattern.nd rfl (.inl rfl))) (fun _ _ _ _ _ => pts_nil) (fun _ _ _ _ _ => (pe_joinK (K := K) rfl pe_str (pe_lc (own := [("entry", 8)]) (g := gName 8) rfl sc_show_pattern.nd (pi_listK (K := K) rfl (pv 7)) (blkOk_by (N := ["pattern", "start", "groups", "steps", "end", "shown", "later", "group", "entry", "step"]) (own := [("entry", 8)]) (by rfl)) (fun _ _ _ _ _ => (pg_name (i := 8) sc_show_pattern.nd rfl (.inl rfl))) (fun _ _ _ _ _ => pts_nil) (fun _ _ _ _ _ => (pe_callTy call_str_int (by rfl) T.m_str (by decide +kernel) (pa_cons (pv 8) pa_nil)))))))
    (pss_cons
      (ps_setLc (i := 6) (own := [("step", 9), ("group", 7)]) (g := gTup K 2 (gCons (gName 9) (gCons (gName 7) gNil))) rfl sc_show_pattern.nd rfl rfl (sw_true rfl rfl rfl (by decide +kernel)) (pi_zip (by rfl) T.m_zip (pa_cons (pv 3) (pa_cons (pe_slice sl_list (pv 5) (po_some pe_int) po_none) pa_nil))) (blkOk_by (N := ["pattern", "start", "groups", "steps", "end", "shown", "later", "group", "entry", "step"]) (sc := defScope s_show_pattern) (own := [("step", 9), ("group", 7)]) (by decide +kernel)) (fun _ _ _ _ _ => (pg_tupK (K := K) rfl (by rfl) (pgs_cons (pg_name (i := 9) sc_show_pattern.nd rfl (.inl rfl)) (pgs_cons (pg_name (i := 7) sc_show_pattern.nd rfl (.inl rfl)) pgs_nil)))) (fun _ _ _ _ _ => pts_nil) (fun _ _ _ _ _ => (pe_op op_add_str (pe_ix (ix_idict T.id__SIGNS) (pe_glob (v := .ref T.d__SIGNS) (by rfl) T.g__SIGNS rfl) (pv 9) (fun _ _ => rfl)) (pv 7))))
    (pss_one
      (ps_ret (pe_op op_add_str (pe_op op_add_str (pe_op op_add_str (pe_ifExp (pt_cmpR op_eq (pv 1) pe_int (nomark _)) pe_str pe_str) (pe_ix ix_list (pv 5) pe_int (fun _ _ => rfl))) (pe_join pe_str (pv 6))) (pe_ifExp (pt_cmpR op_eq (pv 4) pe_int (nomark _)) pe_str pe_str))))))), ?_⟩
    refine ⟨_, rfl, u, _, rfl, .of hu, rfl, _, _, rfl, _, _, rfl, _, _, rfl, _, _, rfl, rfl, ?_⟩
    -- shown
    refine ⟨_, rfl, G, rfl, ⟨_, .of hG⟩, fun D hD => ?_⟩
    refine lc_list (xs := ps.map V.ref) (fun i H' => Same H H' ∧ H' D = some (.lst (((x.gs.take i).map gT).map V.str))) ⟨same_upd hD, upd_same⟩ (fun i H' _ h => .of (h.1 _ _ hG)) ?_ ?_
    · rintro i v H1 hi ⟨sm, eD⟩
      rw [List.getElem?_map] at hi
      obtain ⟨p, hpi, rfl⟩ := Option.map_eq_some_iff.mp hi
      have hil := (List.getElem?_eq_some_iff.mp hpi).1
      have hgi : x.gs[i]? = some x.gs[i] := List.getElem?_eq_getElem (by omega)
      have ep := hp i p _ hpi hgi
      obtain ⟨g1, g2, g3⟩ := ok.gr _ (List.mem_of_getElem? hgi)
      have hl := ok.len
      have few := ok.few
      have room := g_room g3 g2
      generalize x.gs[i] = g at *
      refine ⟨rfl, ⟨_, rfl⟩, _, rfl, p, rfl, ⟨_, .of (sm _ _ ep)⟩, fun D2 hD2 => ?_⟩
      refine lc_list (xs := g.map V.int) (fun j H' => Same H1 H' ∧ H' D2 = some (.lst (((g.take j).map istr).map V.str))) ⟨same_upd hD2, upd_same⟩ (fun j H' _ h => .of (h.1 _ _ (sm _ _ ep))) ?_ ?_
      · rintro j v H2 hj ⟨sm2, eD2⟩
        rw [List.getElem?_map] at hj
        obtain ⟨n, hn, rfl⟩ := Option.map_eq_some_iff.mp hj
        have hjl := (List.getElem?_eq_some_iff.mp hn).1
        refine ⟨rfl, _, rfl, n, rfl, log200 (g3 n (List.mem_of_getElem? hn)), _, eD2, ?_, fun b o e => ?_, ?_⟩
        · rw [List.length_map, List.length_map, List.length_take]; exact small1000 (by omega)
        · rw [upd_ne (ne_of_none e hD2)]; exact sm2 b o e
        · rw [upd_same, List.take_add_one, hn, List.map_append, List.map_append]; rfl
      · rintro H2 ⟨sm2, eD2⟩
        rw [List.length_map, List.take_of_length_le (Nat.le_refl _)] at eD2
        refine ⟨_, D2, _, rfl, rfl, .inl (.of eD2), room, _, sm2 _ _ eD, ?_, fun b o e => ?_, ?_⟩
        · rw [List.length_map, List.length_map, List.length_take]; exact small1000 (by omega)
        · rw [upd_ne (ne_of_none e hD)]; exact sm2 b o (sm b o e)
        · rw [upd_same, List.take_add_one, hgi, List.map_append, List.map_append]; rfl
    rintro H1 ⟨s1, eD⟩
    rw [List.length_map, pl, List.take_of_length_le (Nat.le_refl _)] at eD
    -- later
    refine ⟨_, rfl, _, rfl, _, rfl, D, _, rfl, .of eD, fun C hC => ?_⟩
    have ec : cutV ((x.gs.map gT).map V.str) (some 1) none = ((x.gs.map gT).map V.str).drop 1 := cut_drop _ 1
    have sC := same_upd (o := .lst (cutV ((x.gs.map gT).map V.str) (some 1) none)) hC
    have eC : (upd H1 C (.lst (cutV ((x.gs.map gT).map V.str) (some 1) none))) C = some (.lst (((x.gs.map gT).drop 1).map V.str)) := by rw [upd_same, ec, List.map_drop]
    generalize upd H1 C (.lst (cutV ((x.gs.map gT).map V.str) (some 1) none)) = H2 at *
    have s2 := s1.trans sC
    have eD2 := sC _ _ eD
    refine ⟨S, C, _, _, rfl, .of (s2 _ _ hS), .of eC, fun B hB => ?_⟩
    refine lc_it (walk_zip (xs := x.ss.map V.int) (ys := ((x.gs.map gT).drop 1).map V.str) (n := x.ss.length) ?_) (fun i H' => Same H2 H' ∧ H' B = some (.lst ((laters x i).map V.str))) ⟨same_upd hB, upd_same⟩ (fun i H' _ h => ⟨.of (h.1 _ _ (s2 _ _ hS)), .of (h.1 _ _ eC)⟩) ?_ ?_
    · rw [List.length_map, List.length_map, List.length_drop, List.length_map, ok.len]; omega
    · rintro i v H3 H4 hi ⟨sm, eB⟩ ⟨U, a, b, rfl, hU, rfl, ha, hb⟩
      have ha : (x.ss.map V.int)[i]? = some a := ha
      have hb : (((x.gs.map gT).drop 1).map V.str)[i]? = some b := hb
      have hsi : x.ss[i]? = some x.ss[i] := List.getElem?_eq_getElem hi
      have hl := ok.len
      have hgi : x.gs[i + 1]? = some x.gs[i + 1] := List.getElem?_eq_getElem (by omega)
      rw [List.getElem?_map, hsi] at ha
      rw [List.getElem?_map, List.getElem?_drop, List.getElem?_map, Nat.add_comm, hgi] at hb
      cases ha
      cases hb
      have few := ok.few
      have e1 : x.ss.getD i 0 = x.ss[i] := by rw [List.getD_eq_getElem?_getD, hsi]; rfl
      have e2 : x.gs.getD (i + 1) [] = x.gs[i + 1] := by rw [List.getD_eq_getElem?_getD, hgi]; rfl
      have lk : List.lookup x.ss[i] [((1 : Int), Str.ofString " < "), (2, Str.ofString " << ")] = some (sgn x.ss[i]) := by
        rcases ok.sg _ (List.mem_of_getElem? hsi) with q | q <;> rw [q] <;> rfl
      have l1 := gT_at ok (i + 1)
      have l2 := sgn_len (x.ss.getD i 0)
      rw [e1] at l2
      rw [e2] at l1
      have big : 50000 ≤ sizeLine := by decide
      have s4 := sm.trans (same_upd (o := .tup [.int x.ss[i], .str (gT x.gs[i + 1])]) hU)
      have eB4 := same_upd (o := .tup [.int x.ss[i], .str (gT x.gs[i + 1])]) hU _ _ eB
      refine ⟨U, _, rfl, .of upd_same, rfl, _, _, rfl, _, _, rfl, rfl, rfl, _, rfl, _, _, rfl, rfl, lk, _, rfl, _, _, rfl, rfl, ?_, _, eB4, ?_, fun c o e => ?_, ?_⟩
      · omega
      · rw [List.length_map, laters_len]; exact small1000 (by omega)
      · rw [upd_ne (ne_of_none e hB)]; exact s4 c o e
      · rw [upd_same, laters_succ, List.map_append, e1, e2]; rfl
    rintro H3 ⟨s3, eB⟩
    have s03 := s2.trans s3
    have hl := ok.len
    have g0 : x.gs[0]? = some x.gs[0] := List.getElem?_eq_getElem (by omega)
    have e0 : x.gs.getD 0 [] = x.gs[0] := by rw [List.getD_eq_getElem?_getD, g0]; rfl
    have l0 := gT_at ok 0
    have room := laters_room ok
    have ll := later_len ok
    have p1 := pre_len x.st
    have p2 := post_len x.en
    have big : 2000000 ≤ sizeLine := by decide
    have kk := k H3 s03
    unfold patT at kk
    rw [e0] at kk l0
    have ix0 : atI ((x.gs.map gT).map V.str) 0 = some (V.str (gT x.gs[0])) := atI_nat (j := 0) (by rw [List.getElem?_map, List.getElem?_map, g0]; rfl)
    generalize gT x.gs[0] = t0 at *
    refine ⟨_, rfl, rfl, _, rfl, ?_⟩
    have hpre : (x.st = 1 ∧ pre x.st = Str.ofString ". ") ∨ (x.st ≠ 1 ∧ pre x.st = Str.ofString "") := by
      unfold pre
      by_cases q : x.st = 1
      · exact .inl ⟨q, if_pos q⟩
      · exact .inr ⟨q, if_neg q⟩
    have hpost : (x.en = 1 ∧ post x.en = Str.ofString " .") ∨ (x.en ≠ 1 ∧ post x.en = Str.ofString "") := by
      unfold post
      by_cases q : x.en = 1
      · exact .inl ⟨q, if_pos q⟩
      · exact .inr ⟨q, if_neg q⟩
    rcases hpre with ⟨q1, e⟩ | ⟨q1, e⟩
    · rw [e] at kk p1
      refine iteD (congrArg V.int q1) ?_
      refine ⟨_, rfl, D, _, _, _, rfl, rfl, .of (s3 _ _ eD2), ix0, _, _, rfl, rfl, ?_, ⟨_, rfl⟩, _, rfl, _, B, _, rfl, rfl, .inl (.of eB), room, _, _, rfl, rfl, ?_, _, rfl, rfl, _, rfl, ?_⟩
      · omega
      · rw [Str.length_append]; omega
      rcases hpost with ⟨q2, f⟩ | ⟨q2, f⟩
      · rw [f] at kk p2
        refine iteD (congrArg V.int q2) ⟨_, _, rfl, rfl, ?_, kk⟩
        rw [Str.length_append, Str.length_append]; omega
      · rw [f] at kk p2
        refine iteND (fun z => q2 (V.int.inj z)) ⟨_, _, rfl, rfl, ?_, kk⟩
        rw [Str.length_append, Str.length_append]; omega
    · rw [e] at kk p1
      refine iteND (fun z => q1 (V.int.inj z)) ?_
      refine ⟨_, rfl, D, _, _, _, rfl, rfl, .of (s3 _ _ eD2), ix0, _, _, rfl, rfl, ?_, ⟨_, rfl⟩, _, rfl, _, B, _, rfl, rfl, .inl (.of eB), room, _, _, rfl, rfl, ?_, _, rfl, rfl, _, rfl, ?_⟩
      · omega
      · rw [Str.length_append]; omega
      rcases hpost with ⟨q2, f⟩ | ⟨q2, f⟩
      · rw [f] at kk p2
        refine iteD (congrArg V.int q2) ⟨_, _, rfl, rfl, ?_, kk⟩
        rw [Str.length_append, Str.length_append]; omega
      · rw [f] at kk p2
        refine iteND (fun z => q2 (V.int.inj z)) ⟨_, _, rfl, rfl, ?_, kk⟩
        rw [Str.length_append, Str.length_append]; omega
theorem kb_show_pattern (T : Tx K w mg) : KBn K T.d_show_pattern ["pattern"] 0 ["pattern"] (fun _ ws => ws) (fun _ zs => zs) := by
  obtain ⟨oc, od, kV, doc, pm, an, cdv, ct, osl, e, _, _⟩ := T.F_show_pattern.ex
  refine ⟨fun s us ws _ h1 h2 => ?_, fun _ r => r⟩
  rw [e]
  match us, ws, h1, h2 with
  | [], [_], _, _ => exact BindsTo.of_eq rfl
/-! ### the law's texts, copies, patterns -/
def sp_ptext : Sp := fun vs H Q _ => ∃ (u : Addr) (x : Pat), vs = [.ref u] ∧ PatH H u x ∧ PatOk x ∧ ∀ H', Same H H' → Q (.str (patT x)) H'
theorem ok_law_pattern_text (T : Tx K w mg) : FnOk P w K mg base CX0 1 T.f_law_pattern_text T.d_law_pattern_text ["form"] sp_ptext := by
  refine T.F_law_pattern_text.ok sc_law_pattern_text (fun vs H Q E h => ?_) (fun cdv A outer s H vs Q E hr h => ?_)
  · obtain ⟨u, x, rfl, _⟩ := h
    rfl
  · obtain ⟨u, x, rfl, ⟨G, S, ps, hu, hG, hS, pl, hp⟩, ok, k⟩ := h
    refine ⟨_,
    (pss_cons
      (ps_setLc (i := 1) (own := [("group", 5)]) (g := gName 5) rfl sc_law_pattern_text.nd rfl rfl (sw_true rfl rfl rfl (by decide +kernel)) (pi_list (pe_ix ix_tup (pv 0) pe_int (fun _ _ => rfl))) (blkOk_by (N := ["form", "words", "line", "at", "step", "group", "task"]) (sc := defScope s_law_pattern_text) (own := [("group", 5)]) (by decide +kernel)) (fun _ _ _ _ _ => (pg_name (i := 5) sc_law_pattern_text.nd rfl (.inl rfl))) (fun _ _ _ _ _ => pts_nil) (fun _ _ _ _ _ => (pe_joinK (K := K) rfl pe_str (pe_lc (own := [("task", 6)]) (g := gName 6) rfl sc_law_pattern_text.nd (pi_listK (K := K) rfl (pv 5)) (blkOk_by (N := ["form", "words", "line", "at", "step", "group", "task"]) (own := [("task", 6)]) (by rfl)) (fun _ _ _ _ _ => (pg_name (i := 6) sc_law_pattern_text.nd rfl (.inl rfl))) (fun _ _ _ _ _ => pts_nil) (fun _ _ _ _ _ => (pe_callTy call_str_int (by rfl) T.m_str (by decide +kernel) (pa_cons (pv 6) pa_nil)))))))
    (pss_cons
      (ps_set (i := 2) sc_law_pattern_text.nd rfl (.inl rfl) (pe_ix ix_list (pv 1) pe_int (fun _ _ => rfl)))
    (pss_cons
      (ps_for PassesOwn.never rfl (pi_enum (by rfl) T.m_enumerate (pa_cons (pe_ix ix_tup (pv 0) pe_int (fun _ _ => rfl)) pa_nil)) (pg_tup (by rfl) (pgs_cons (pg_name (i := 3) sc_law_pattern_text.nd rfl (.inl rfl)) (pgs_cons (pg_name (i := 4) sc_law_pattern_text.nd rfl (.inl rfl)) pgs_nil)))
        (pss_one
          (ps_set (i := 2) sc_law_pattern_text.nd rfl (.inl rfl) (pe_op op_add_str (pe_op op_add_str (pe_op op_add_str (pe_op op_add_str (pv 2) pe_str) (pe_op op_mulS pe_str (pv 4))) pe_str) (pe_ix ix_list (pv 1) (pe_op op_add (pv 3) pe_int) (fun _ _ => rfl))))))
    (pss_one
      (ps_ret (pe_op op_add_str (pe_op op_add_str (pe_op op_mulS pe_str (pe_ix ix_tup (pv 0) pe_int (fun _ _ => rfl))) (pv 2)) (pe_op op_mulS pe_str (pe_ix ix_tup (pv 0) pe_int (fun _ _ => rfl))))))))), ?_⟩
    -- words
    refine ⟨_, rfl, u, _, _, _, rfl, rfl, .of hu, atI_nat (j := 1) rfl, G, rfl, ⟨_, .of hG⟩, fun D hD => ?_⟩
    refine lc_list (xs := ps.map V.ref) (fun i H' => Same H H' ∧ H' D = some (.lst (((x.gs.take i).map gT).map V.str))) ⟨same_upd hD, upd_same⟩ (fun i H' _ h => .of (h.1 _ _ hG)) ?_ ?_
    · rintro i v H1 hi ⟨sm, eD⟩
      rw [List.getElem?_map] at hi
      obtain ⟨p, hpi, rfl⟩ := Option.map_eq_some_iff.mp hi
      have hil := (List.getElem?_eq_some_iff.mp hpi).1
      have hgi : x.gs[i]? = some x.gs[i] := List.getElem?_eq_getElem (by omega)
      have ep := hp i p _ hpi hgi
      obtain ⟨g1, g2, g3⟩ := ok.gr _ (List.mem_of_getElem? hgi)
      have hl := ok.len
      have few := ok.few
      have room := g_room g3 g2
      generalize x.gs[i] = g at *
      refine ⟨rfl, ⟨_, rfl⟩, _, rfl, p, rfl, ⟨_, .of (sm _ _ ep)⟩, fun D2 hD2 => ?_⟩
      refine lc_list (xs := g.map V.int) (fun j H' => Same H1 H' ∧ H' D2 = some (.lst (((g.take j).map istr).map V.str))) ⟨same_upd hD2, upd_same⟩ (fun j H' _ h => .of (h.1 _ _ (sm _ _ ep))) ?_ ?_
      · rintro j v H2 hj ⟨sm2, eD2⟩
        rw [List.getElem?_map] at hj
        obtain ⟨n, hn, rfl⟩ := Option.map_eq_some_iff.mp hj
        have hjl := (List.getElem?_eq_some_iff.mp hn).1
        refine ⟨rfl, _, rfl, n, rfl, log200 (g3 n (List.mem_of_getElem? hn)), _, eD2, ?_, fun b o e => ?_, ?_⟩
        · rw [List.length_map, List.length_map, List.length_take]; exact small1000 (by omega)
        · rw [upd_ne (ne_of_none e hD2)]; exact sm2 b o e
        · rw [upd_same, List.take_add_one, hn, List.map_append, List.map_append]; rfl
      · rintro H2 ⟨sm2, eD2⟩
        rw [List.length_map, List.take_of_length_le (Nat.le_refl _)] at eD2
        refine ⟨_, D2, _, rfl, rfl, .inl (.of eD2), room, _, sm2 _ _ eD, ?_, fun b o e => ?_, ?_⟩
        · rw [List.length_map, List.length_map, List.length_take]; exact small1000 (by omega)
        · rw [upd_ne (ne_of_none e hD)]; exact sm2 b o (sm b o e)
        · rw [upd_same, List.take_add_one, hgi, List.map_append, List.map_append]; rfl
    rintro H1 ⟨s1, eD⟩
    rw [List.length_map, pl, List.take_of_length_le (Nat.le_refl _)] at eD
    have hl := ok.len
    have few := ok.few
    have big : 2000000 ≤ sizeLine := by decide
    have at_ : ∀ i : Nat, i ≤ x.ss.length → ((x.gs.map gT).map V.str)[i]? = some (V.str (gT (x.gs.getD i []))) := fun i hi => by
      have q : x.gs[i]? = some x.gs[i] := List.getElem?_eq_getElem (by omega)
      rw [List.getElem?_map, List.getElem?_map, q, List.getD_eq_getElem?_getD, q]; rfl
    refine ⟨_, rfl, D, _, _, _, rfl, rfl, .of eD, atI_nat (j := 0) (at_ 0 (Nat.zero_le _)), ?_⟩
    refine ⟨_, rfl, u, _, _, _, rfl, rfl, .of (s1 _ _ hu), atI_nat (j := 2) rfl, S, _, rfl, .of (s1 _ _ hS), for_enum (xs := x.ss.map V.int) (fun i σ H' => Same H1 H' ∧ ∃ x3 x4, σ = [some (.ref u), some (.ref D), some (.str (lineT x i)), x3, x4, none, none]) ?_ ?_ ?_ ?_⟩
    · exact ⟨Same.refl H1, none, none, rfl⟩
    · rintro i σ H' _ ⟨sm, _⟩
      exact .of (sm _ _ (s1 _ _ hS))
    · rintro i v σ H2 U hi ⟨sm, x3, x4, rfl⟩ hU
      rw [List.getElem?_map] at hi
      obtain ⟨s, hs, rfl⟩ := Option.map_eq_some_iff.mp hi
      have hil := (List.getElem?_eq_some_iff.mp hs).1
      have es : x.ss.getD i 0 = s := by rw [List.getD_eq_getElem?_getD, hs]; rfl
      have h12 := ok.sg s (List.mem_of_getElem? hs)
      have s2 := sm.trans (same_upd (o := .tup [.int (i : Nat), .int s]) hU)
      have l1 := line_len ok i (by omega)
      have l2 := mulS_len h12
      have l3 := gT_at ok (i + 1)
      have l0 : i * 40004 ≤ 20 * 40004 := Nat.mul_le_mul_right _ (by omega)
      refine ⟨U, _, rfl, .of upd_same, rfl, _, _, rfl, _, _, rfl, rfl, ?_⟩
      refine ⟨_, rfl, _, _, rfl, rfl, ?_, _, rfl, _, _, rfl, rfl, mul_ok1 h12, _, _, rfl, rfl, ?_, _, _, rfl, rfl, ?_, _, rfl, _, rfl, _, _, rfl, rfl, D, _, _, _, rfl, rfl, .of (s2 _ _ eD), at_of (j := i + 1) (by omega) (at_ (i + 1) (by omega)), _, _, rfl, rfl, ?_, s2, some (V.int (i : Nat)), some (V.int s), ?_⟩
      · rw [sp_len]; omega
      · rw [Str.length_append, sp_len]; omega
      · rw [Str.length_append, Str.length_append, sp_len]; omega
      · rw [Str.length_append, Str.length_append, Str.length_append, sp_len]; omega
      · rw [← es]; rfl
    · rintro σ H2 ⟨sm, x3, x4, rfl⟩
      rw [List.length_map]
      have s2 := s1.trans sm
      have kk := k H2 s2
      have l1 := line_len ok x.ss.length (Nat.le_refl _)
      have l0 : x.ss.length * 40004 ≤ 20 * 40004 := Nat.mul_le_mul_right _ (by omega)
      have l2 := pre_len x.st
      have l3 := post_len x.en
      rw [← text_eq ok] at kk
      rw [← mul_pre ok.s0] at l2
      rw [← mul_post ok.e0] at l3
      refine ⟨_, rfl, u, _, _, _, rfl, rfl, .of (s2 _ _ hu), atI_nat (j := 0) rfl, _, _, rfl, rfl, mul_ok2 ok.s0, _, rfl, _, _, rfl, rfl, ?_, _, rfl, u, _, _, _, rfl, rfl, .of (s2 _ _ hu), atI_nat (j := 3) rfl, _, _, rfl, rfl, mul_ok3 ok.e0, _, _, rfl, rfl, ?_, kk⟩
      · omega
      · rw [Str.length_append]; omega
/-! ### the law's deck -/
def Deck (H : Hp) (d g : Addr) : Prop := ∃ (gs : List Int) (a m : Int), H d = some (.lst [.ref g, .int a, .int m]) ∧ H g = some (.lst (gs.map V.int)) ∧ gs.length ≤ 63 ∧ (∀ x ∈ gs, 0 ≤ x) ∧ 0 ≤ a ∧ 0 ≤ m ∧ m < 2147483648
theorem Deck.ne {H : Hp} {d g : Addr} (h : Deck H d g) : d ≠ g := by
  obtain ⟨gs, a, m, h1, h2, _⟩ := h
  intro e
  subst e
  rw [h1] at h2
  cases gs with
  | nil => cases h2
  | cons x r => injection h2 with h2; injection h2 with h2; injection h2 with h2; cases h2
/-- all but the deck is as it was -/
def Kd (d g : Addr) (H H' : Hp) : Prop := ∀ b o, H b = some o → b ≠ d → b ≠ g → H' b = some o
theorem Kd.refl {d g : Addr} (H : Hp) : Kd d g H H := fun _ _ h _ _ => h
theorem Kd.trans {d g : Addr} {H H1 H2 : Hp} (a : Kd d g H H1) (b : Kd d g H1 H2) : Kd d g H H2 := fun x o h n1 n2 => b x o (a x o h n1 n2) n1 n2
theorem Same.kd {d g : Addr} {H H' : Hp} (s : Same H H') : Kd d g H H' := fun b o h _ _ => s b o h
def sp_deck (K : PySem.W.Frag) : Sp := fun vs H Q _ => ∃ (a : Addr) (ns : List Int), vs = [.ref a] ∧ SqL K H a (ns.map V.int) ∧ ns.length ≤ 63 ∧ ∀ d g H', Same H H' → Deck H' d g → Q (.ref d) H'
theorem ok_law_deck (T : Tx K w mg) : FnOk P w K mg base CX0 1 T.f_law_deck T.d_law_deck ["script"] (sp_deck K) := by
  refine T.F_law_deck.ok sc_law_deck (fun vs H Q E h => ?_) (fun cdv A outer s H vs Q E hr h => ?_)
  · obtain ⟨a, ns, rfl, _⟩ := h
    rfl
  · obtain ⟨a, ns, rfl, hS, hl, k⟩ := h
    refine ⟨_,
    (pss_cons
      (ps_set (i := 1) sc_law_deck.nd rfl (.inl rfl) (pe_op op_add pe_int (pe_op op_mod (pe_callB call_len_seq (by rfl) T.m_len (by decide +kernel) (pa_cons (pv 0) pa_nil)) pe_int)))
    (pss_cons
      (ps_for PassesOwn.never rfl (pi_list (pv 0)) (pg_name (i := 2) sc_law_deck.nd rfl (.inl rfl))
        (pss_one
          (ps_set (i := 1) sc_law_deck.nd rfl (.inl rfl) (pe_op op_mod (pe_op op_add (pe_op op_add (pe_op op_mul (pv 1) pe_int) (pe_op op_mod (pe_callTy call_int1 (by rfl) T.m_int (by decide +kernel) (pa_cons (pv 2) pa_nil)) pe_int)) pe_int) pe_int))))
    (pss_cons
      (ps_setLc (i := 3) (own := [("cell", 2)]) (g := gName 2) rfl sc_law_deck.nd rfl rfl (sw_true rfl rfl rfl (by decide +kernel)) (pi_list (pv 0)) (blkOk_by (N := ["script", "mixed", "cell", "great"]) (sc := defScope s_law_deck) (own := [("cell", 2)]) (by decide +kernel)) (fun _ _ _ _ _ => (pg_name (i := 2) sc_law_deck.nd rfl (.inl rfl))) (fun _ _ _ _ _ => (pts_one (pt_cmpR op_ge (pv 2) (pe_op op_pow pe_int pe_int) (nomark _)))) (fun _ _ _ _ _ => (pe_op op_sub (pe_callTy call_int1 (by rfl) T.m_int (by decide +kernel) (pa_cons (pv 2) pa_nil)) (pe_op op_pow pe_int pe_int))))
    (pss_one
      (ps_ret (pe_lst (pa_cons (pe_revL (pv 3)) (pa_cons pe_int (pa_cons (pe_op op_add (pe_op op_mod (pv 1) pe_int) pe_int) pa_nil))))))))), ?_⟩
    refine ⟨_, rfl, a, _, rfl, .inl hS, _, _, rfl, rfl, (by show (0 : Int) < 1009; decide), _, _, rfl, rfl, ?_⟩
    have m0 : 0 ≤ 1 + ((ns.map V.int).length : Int) % 1009 := by omega
    have m1 : 1 + ((ns.map V.int).length : Int) % 1009 < 2147483648 := by omega
    refine ⟨_, rfl, a, rfl, ⟨_, hS⟩, for_list (xs := ns.map V.int) (fun i σ H' => H' = H ∧ ∃ m x2, 0 ≤ m ∧ m < 2147483648 ∧ σ = [some (.ref a), some (.int m), x2, none]) ⟨rfl, _, none, m0, m1, rfl⟩ (fun i σ H' _ h => by rw [h.1]; exact hS) ?_ ?_⟩
    · rintro i v σ H1 hi ⟨rfl, m, x2, m0, m1, rfl⟩
      rw [List.getElem?_map] at hi
      obtain ⟨c, _, rfl⟩ := Option.map_eq_some_iff.mp hi
      refine ⟨_, rfl, _, _, rfl, rfl, .inl ⟨by omega, by omega⟩, _, rfl, .inl ⟨_, rfl, _, _, rfl, rfl, (by show (0 : Int) < 2147483563; decide), _, _, rfl, rfl, _, _, rfl, rfl, _, _, rfl, rfl, (by show (0 : Int) < 2147483399; decide), rfl, _, _, Int.emod_nonneg _ (by decide), Int.lt_trans (Int.emod_lt_of_pos _ (by decide)) (by decide), rfl⟩⟩
    · rintro σ H1 ⟨rfl, m, x2, m0, m1, rfl⟩
      refine ⟨_, rfl, a, rfl, ⟨_, hS⟩, fun D hD => ?_⟩
      refine lc_list (xs := ns.map V.int) (fun i H' => ∃ gs : List Int, gs.length ≤ i ∧ (∀ x ∈ gs, 0 ≤ x) ∧ H' D = some (.lst (gs.map V.int)) ∧ Same H1 H') ?_ ?_ ?_ ?_
      · exact ⟨[], Nat.le_refl _, (fun _ h => absurd h List.not_mem_nil), upd_same, same_upd hD⟩
      · rintro i H' _ ⟨gs, _, _, _, sm⟩
        exact sm.seq hS
      · rintro i v H' hi ⟨gs, gl, g0, eD, sm⟩
        have hil := (List.getElem?_eq_some_iff.mp hi).1
        rw [List.length_map] at hil
        rw [List.getElem?_map] at hi
        obtain ⟨c, _, rfl⟩ := Option.map_eq_some_iff.mp hi
        refine ⟨rfl, _, rfl, _, _, rfl, rfl, ⟨by decide, by decide, by decide⟩, _, _, rfl, rfl, _, rfl, ite2 (fun h => ?_) (fun _ => ⟨gs, by omega, g0, eD, sm⟩)⟩
        have h1 : (10 : Int) ^ (18 : Int).toNat ≤ c := of_decide_eq_true h
        refine ⟨_, rfl, .inl ⟨_, rfl, _, _, rfl, rfl, ⟨by decide, by decide, by decide⟩, _, _, rfl, rfl, gs.map V.int, eD, ?_, gs ++ [c - (10 : Int) ^ (18 : Int).toNat], ?_, ?_, ?_, fun b o e => ?_⟩⟩
        · rw [List.length_map]; exact small1000 (by omega)
        · rw [List.length_append]; exact Nat.succ_le_succ gl
        · intro x hx
          rcases List.mem_append.mp hx with h | h
          · exact g0 x h
          · have := List.mem_singleton.mp h
            omega
        · rw [upd_same, List.map_append]; rfl
        · rw [upd_ne (ne_of_none e hD)]; exact sm b o e
      · rintro H2 ⟨gs, gl, g0, eD, sm⟩
        rw [List.length_map] at gl
        refine ⟨_, rfl, D, _, rfl, .of eD, fun g hg => ⟨_, rfl, _, _, rfl, rfl, (by show (0 : Int) < 2147483398; decide), _, _, rfl, rfl, (by show 3 ≤ sizeLine; decide), fun d hd => ?_⟩⟩
        refine k d g _ ((sm.trans (same_upd hg)).trans (same_upd hd)) ⟨gs.reverse, 0, m % 2147483398 + 1, upd_same, ?_, by rw [List.length_reverse]; omega, fun x hx => g0 x (List.mem_reverse.mp hx), by decide, by omega, by omega⟩
        rw [upd_ne (ne_of_none upd_same hd), upd_same, List.map_reverse]
def sp_draw : Sp := fun vs H Q _ => ∃ (d g : Addr) (n : Int), vs = [.ref d, .int n] ∧ Deck H d g ∧ 0 < n ∧ n.natAbs.log2 < 9000 ∧ ∀ r H', 0 ≤ r → r < n → Deck H' d g → Kd d g H H' → Q (.int r) H'
theorem small_log {m : Int} (h : m.natAbs < 1024) : m.natAbs.log2 < 9000 := by
  have h1 : m.natAbs.log2 < 10 := PySem.Flt.log2_lt_of (by decide) h
  omega
theorem ok_law_draw (T : Tx K w mg) : FnOk P w K mg base CX0 1 T.f_law_draw T.d_law_draw ["deck", "many"] sp_draw := by
  refine T.F_law_draw.ok sc_law_draw (fun vs H Q E h => ?_) (fun cdv A outer s H vs Q E hr h => ?_)
  · obtain ⟨d, g, n, rfl, _⟩ := h
    rfl
  · obtain ⟨d, g, n, rfl, hD, hn, hl, k⟩ := h
    refine ⟨_,
    (pss_cons
      (ps_while PassesOwn.never (PW.pt (pw_and (pt_cmpR op_lt (pe_ix ix_list (pv 0) pe_int (fun _ _ => rfl)) pe_int (nomark _)) (pw_and1 (pt_cmpR op_gt (pe_callB call_len_seq (by rfl) T.m_len (by decide +kernel) (pa_cons (pe_ix ix_list (pv 0) pe_int (fun _ _ => rfl)) pa_nil)) pe_int (nomark _)))))
        (pss_one
          (ps_asg (pe_bm0 PySem.F.plainAttrs_list PySem.F.slot_list_pop PySem.F.type_list_pop mt_pop (pe_ix ix_list (pv 0) pe_int (fun _ _ => rfl))) (pg_sub (pv 0) pe_int set_list))))
    (pss_cons
      (ps_if (pt_cmpR op_gt (pe_ix ix_list (pv 0) pe_int (fun _ _ => rfl)) pe_int (nomark _))
        (pss_cons
          (ps_set (i := 2) sc_law_draw.nd rfl (.inl rfl) (pe_op op_mod (pe_callTy call_int1 (by rfl) T.m_int (by decide +kernel) (pa_cons (pe_ix ix_list (pv 0) pe_int (fun _ _ => rfl)) pa_nil)) (pv 1)))
        (pss_cons
          (ps_asg (pe_op op_fdivW (pe_ix ix_list (pv 0) pe_int (fun _ _ => rfl)) (pv 1)) (pg_sub (pv 0) pe_int set_list))
        (pss_one
          (ps_ret (pv 2)))))
        pss_nil)
    (pss_cons
      (ps_asg (pe_op op_mod (pe_op op_mul (pe_ix ix_list (pv 0) pe_int (fun _ _ => rfl)) pe_int) pe_int) (pg_sub (pv 0) pe_int set_list))
    (pss_one
      (ps_ret (pe_op op_mod (pe_op op_fdiv (pe_op op_add (pe_op op_mod (pe_op op_mul (pe_ix ix_list (pv 0) pe_int (fun _ _ => rfl)) (pe_ix ix_list (pv 0) pe_int (fun _ _ => rfl))) pe_int) (pe_op op_fdiv (pe_ix ix_list (pv 0) pe_int (fun _ _ => rfl)) pe_int)) pe_int) (pv 1))))))), ?_⟩
    have dg := hD.ne
    obtain ⟨gs, a, m, hd, hg, gl, g0, a0, m0, m1⟩ := hD
    refine ⟨fun t σ H' => ∃ (gs : List Int) (a : Int), gs.length = t ∧ σ = [some (.ref d), some (.int n), none] ∧ H' d = some (.lst [.ref g, .int a, .int m]) ∧ H' g = some (.lst (gs.map V.int)) ∧ gs.length ≤ 63 ∧ (∀ x ∈ gs, 0 ≤ x) ∧ 0 ≤ a ∧ Kd d g H H',
      ⟨_, gs, a, rfl, rfl, hd, hg, gl, g0, a0, Kd.refl H⟩, ?_⟩
    clear hd hg gl g0 a0 gs a
    rintro t σ H1 ⟨gs, a, tl, rfl, hd, hg, gl, g0, a0, kd⟩
    refine ⟨_, rfl, d, _, _, _, rfl, rfl, .of hd, atI_nat (j := 1) rfl, _, _, rfl, rfl, _, rfl, ite2 (fun c1 => ?_) (fun c1 => ?_)⟩
    · refine ⟨_, rfl, d, _, _, _, rfl, rfl, .of hd, atI_nat (j := 0) rfl, g, _, rfl, .inl (.of hg), _, _, rfl, rfl, _, rfl, ite2 (fun c2 => ?_) (fun c2 => ?_)⟩
      · have c3 : 0 < gs.length := by
          have : (0 : Int) < ((gs.map V.int).length : Int) := of_decide_eq_true c2
          rw [List.length_map] at this
          omega
        have hz : gs[gs.length - 1]? = some gs[gs.length - 1] := List.getElem?_eq_getElem (by omega)
        have hm := List.mem_of_getElem? hz
        generalize gs[gs.length - 1] = z at hz hm
        refine ⟨fun σ' H' => ∃ (gs : List Int) (a : Int), gs.length < t ∧ σ' = [some (.ref d), some (.int n), none] ∧ H' d = some (.lst [.ref g, .int a, .int m]) ∧ H' g = some (.lst (gs.map V.int)) ∧ gs.length ≤ 63 ∧ (∀ x ∈ gs, 0 ≤ x) ∧ 0 ≤ a ∧ Kd d g H H',
          fun σ' H' ⟨gs, a, h1, h2⟩ => ⟨_, h1, gs, a, rfl, h2⟩, ?_⟩
        refine ⟨_, rfl, d, _, _, _, rfl, rfl, .of hd, atI_nat (j := 0) rfl, .inl ⟨rfl, _, .of hg⟩, g, gs.map V.int, V.int z, rfl, rfl, hg, ?_, _, rfl, d, [.ref g, .int a, .int m], _, 1, rfl, rfl, ?_, rfl, gs.dropLast, z, ?_, rfl, ?_, ?_, ?_, ?_, g0 z hm, fun b o e n1 n2 => ?_⟩
        · rw [List.length_map, List.getElem?_map, hz]; rfl
        · rw [upd_ne dg]; exact hd
        · rw [List.length_dropLast]; omega
        · rw [upd_same]; rfl
        · rw [upd_ne dg.symm, upd_same, List.map_dropLast]
        · rw [List.length_dropLast]; omega
        · exact fun x hx => g0 x (List.dropLast_subset gs hx)
        · rw [upd_ne n1, upd_ne n2]; exact kd b o e n1 n2
      · refine ⟨_, rfl, d, _, _, _, rfl, rfl, .of hd, atI_nat (j := 1) rfl, _, _, rfl, rfl, _, rfl, iteND (by have : a < 2 := of_decide_eq_true c1; omega) ?_⟩
        have bm : -(2 ^ 64) < m ∧ m < 2 ^ 64 := ⟨by omega, by omega⟩
        have b0 : 0 ≤ m * 48271 % 2147483647 := Int.emod_nonneg _ (by decide)
        have b1 : m * 48271 % 2147483647 < 2147483647 := Int.emod_lt_of_pos _ (by decide)
        have bn : -(2 ^ 64) < m * 48271 % 2147483647 ∧ m * 48271 % 2147483647 < 2 ^ 64 := ⟨by omega, by omega⟩
        refine ⟨_, rfl, d, _, _, _, rfl, rfl, .of hd, atI_nat (j := 2) rfl, _, _, rfl, rfl, .inl bm, _, _, rfl, rfl, (by show (0 : Int) < 2147483647; decide), _, rfl, d, [.ref g, .int a, .int m], _, 2, rfl, rfl, hd, rfl, ?_⟩
        have e2 : (upd H1 d (.lst ([V.ref g, V.int a, V.int m].set 2 (V.int (m * 48271 % 2147483647))))) d = some (.lst [V.ref g, V.int a, V.int (m * 48271 % 2147483647)]) := upd_same
        refine ⟨_, rfl, d, _, _, _, rfl, rfl, .of e2, atI_nat (j := 2) rfl, _, rfl, d, _, _, _, rfl, rfl, .of e2, atI_nat (j := 2) rfl, _, _, rfl, rfl, .inl bn, _, _, rfl, rfl, (by show (0 : Int) < 2147483629; decide), _, rfl, d, _, _, _, rfl, rfl, .of e2, atI_nat (j := 2) rfl, _, _, rfl, rfl, ⟨by decide, by decide⟩, _, _, rfl, rfl, _, _, rfl, rfl, ⟨by decide, by decide⟩, _, rfl, _, _, rfl, rfl, hn, ?_⟩
        refine k _ _ (Int.emod_nonneg _ (by omega)) (Int.emod_lt_of_pos _ hn) ⟨gs, a, m * 48271 % 2147483647, e2, ?_, gl, g0, a0, b0, by omega⟩ fun b o e n1 n2 => ?_
        · rw [upd_ne dg.symm]; exact hg
        · rw [upd_ne n1]; exact kd b o e n1 n2
    · have c2 : ¬ a < 2 := fun z => c1 (decide_eq_true z)
      refine ⟨_, rfl, d, _, _, _, rfl, rfl, .of hd, atI_nat (j := 1) rfl, _, _, rfl, rfl, _, rfl, iteD (by omega) ?_⟩
      refine ⟨_, rfl, d, _, _, _, rfl, rfl, .of hd, atI_nat (j := 1) rfl, .inl ⟨_, rfl, _, rfl, _, _, rfl, rfl, hn, ?_⟩⟩
      refine ⟨_, rfl, d, _, _, _, rfl, rfl, .of hd, atI_nat (j := 1) rfl, _, rfl, _, _, rfl, rfl, ⟨hn, hl⟩, _, rfl, d, [.ref g, .int a, .int m], _, 1, rfl, rfl, hd, rfl, ?_⟩
      refine ⟨_, rfl, k _ _ (Int.emod_nonneg _ (by omega)) (Int.emod_lt_of_pos _ hn) ⟨gs, a / n, m, upd_same, ?_, gl, g0, Int.ediv_nonneg a0 (by omega), m0, m1⟩ fun b o e n1 n2 => ?_⟩
      · rw [upd_ne dg.symm]; exact hg
      · rw [upd_ne n1]; exact kd b o e n1 n2
theorem Deck.same {H H' : Hp} {d g : Addr} (s : Same H H') (h : Deck H d g) : Deck H' d g := by
  obtain ⟨gs, a, m, h1, h2, h3⟩ := h
  exact ⟨gs, a, m, s _ _ h1, s _ _ h2, h3⟩
theorem Deck.at {H : Hp} {d g : Addr} (h : Deck H d g) : (∃ o, H d = some o) ∧ ∃ o, H g = some o := by
  obtain ⟨gs, a, m, h1, h2, h3⟩ := h
  exact ⟨⟨_, h1⟩, _, h2⟩
theorem Deck.new {H : Hp} {d g p : Addr} (h : Deck H d g) (hp : H p = none) : p ≠ d ∧ p ≠ g := by
  obtain ⟨⟨o, h1⟩, u, h2⟩ := h.at
  exact ⟨(ne_of_none h1 hp).symm, (ne_of_none h2 hp).symm⟩
theorem Kd.free {d g p : Addr} {H H' : Hp} (k : Kd d g H H') (h : H' p = none) (n1 : p ≠ d) (n2 : p ≠ g) : H p = none := by
  cases q : H p with
  | none => rfl
  | some o =>
    rw [k p o q n1 n2] at h
    cases h
/-! ### rules, data, orders -/
/-- tuples stand -/
def Tk (H H' : Hp) : Prop := ∀ b xs, H b = some (.tup xs) → H' b = some (.tup xs)
theorem Same.tk {H H' : Hp} (s : Same H H') : Tk H H' := fun b _ h => s b _ h
theorem Kd.tk {d g : Addr} {H H' : Hp} (k : Kd d g H H') (hD : Deck H d g) : Tk H H' := fun b xs h => by
  obtain ⟨gs, a, m, h1, h2, _⟩ := hD
  exact k b _ h (ne_of h h1 (by intro z; cases z)) (ne_of h h2 (by intro z; cases z))
theorem Tk.trans {H H1 H2 : Hp} (a : Tk H H1) (b : Tk H1 H2) : Tk H H2 := fun x xs h => b x xs (a x xs h)
theorem tk_mut {H : Hp} {p : Addr} {xs : List V} {o : HO} (h : H p = some (.lst xs)) : Tk H (upd H p o) := fun b ys e => by
  rw [upd_ne (ne_of e h (by intro z; cases z))]
  exact e
structure Std (H0 H' : Hp) (d g : Addr) : Prop where
  dk : Deck H' d g
  kd : Kd d g H0 H'
theorem Std.refl {H : Hp} {d g : Addr} (h : Deck H d g) : Std H H d g := ⟨h, Kd.refl H⟩
theorem Std.draw {H0 H1 H2 : Hp} {d g : Addr} (s : Std H0 H1 d g) (h : Deck H2 d g) (k : Kd d g H1 H2) : Std H0 H2 d g := ⟨h, s.kd.trans k⟩
theorem Std.trans {H0 H1 H2 : Hp} {d g : Addr} (s : Std H0 H1 d g) (t : Std H1 H2 d g) : Std H0 H2 d g := ⟨t.dk, s.kd.trans t.kd⟩
theorem Std.new {H0 H1 : Hp} {d g p : Addr} {o : HO} (s : Std H0 H1 d g) (hp : H1 p = none) : Std H0 (upd H1 p o) d g := ⟨s.dk.same (same_upd hp), s.kd.trans (Same.kd (same_upd hp))⟩
theorem Std.free {H0 H1 : Hp} {d g p : Addr} (s : Std H0 H1 d g) (hp : H1 p = none) : H0 p = none := s.kd.free hp (s.dk.new hp).1 (s.dk.new hp).2
theorem Std.mut {H0 H1 : Hp} {d g p : Addr} {o : HO} (s : Std H0 H1 d g) (hp : H0 p = none) (n1 : p ≠ d) (n2 : p ≠ g) : Std H0 (upd H1 p o) d g := by
  refine ⟨?_, fun b u e h1 h2 => ?_⟩
  · obtain ⟨gs, a, m, h1, h2, h3⟩ := s.dk
    exact ⟨gs, a, m, by rw [upd_ne n1.symm]; exact h1, by rw [upd_ne n2.symm]; exact h2, h3⟩
  · rw [upd_ne (ne_of_none e hp)]
    exact s.kd b u e h1 h2
/-- a list apart from the deck -/
structure Lat (H : Hp) (d g p : Addr) (xs : List V) : Prop where
  at_ : H p = some (.lst xs)
  nd : p ≠ d
  ng : p ≠ g
theorem Lat.keep {H H' : Hp} {d g p : Addr} {xs : List V} (h : Lat H d g p xs) (k : Kd d g H H') : Lat H' d g p xs := ⟨k _ _ h.at_ h.nd h.ng, h.nd, h.ng⟩
theorem Lat.new {H : Hp} {d g p : Addr} {xs : List V} (h : Deck H d g) (hp : H p = none) : Lat (upd H p (.lst xs)) d g p xs := ⟨upd_same, (h.new hp).1, (h.new hp).2⟩
def sp_great : Sp := fun vs H Q _ => ∃ (d g : Addr) (n : Int), vs = [.ref d, .int n] ∧ Deck H d g ∧ 0 < n ∧ ∀ r H', 0 ≤ r → r < n → Deck H' d g → Kd d g H H' → Q (.int r) H'
theorem ok_law_great (T : Tx K w mg) : FnOk P w K mg base CX0 2 T.f_law_great T.d_law_great ["deck", "many"] sp_great := by
  refine T.F_law_great.ok sc_law_great (fun vs H Q E h => ?_) (fun cdv A outer s H vs Q E hr h => ?_)
  · obtain ⟨d, g, n, rfl, _⟩ := h
    rfl
  · obtain ⟨d, g, n, rfl, hD, hn, k⟩ := h
    refine ⟨_,
    (pss_cons
      (ps_set (i := 2) sc_law_great.nd rfl (.inl rfl) pe_int)
    (pss_cons
      (ps_for PassesOwn.never rfl (pi_range1 (by rfl) T.m_range (pa_cons pe_int pa_nil)) (pg_name (i := 3) sc_law_great.nd rfl (.inl rfl))
        (pss_one
          (ps_set (i := 2) sc_law_great.nd rfl (.inl rfl) (pe_op op_add (pe_op op_mul (pv 2) pe_int) (pe_call (ok_law_draw T) hr (by rfl) T.g_law_draw T.F_law_draw.kp T.b_law_draw .nil pass0 (pa_cons (pv 0) (pa_cons pe_int pa_nil)))))))
    (pss_one
      (ps_ret (pe_op op_mod (pv 2) (pv 1)))))), ?_⟩
    refine ⟨7, rfl, by decide, by decide, for_range (n := 7) (fun i σ H' => ∃ (x : Int) (y : Option V), σ = [some (.ref d), some (.int n), some (.int x), y] ∧ Deck H' d g ∧ Kd d g H H') ⟨0, none, rfl, hD, Kd.refl H⟩ ?_ ?_⟩
    · rintro i σ H1 _ ⟨x, y, rfl, hD1, k1⟩
      exact ⟨_, rfl, _, _, rfl, rfl, .inr ⟨by decide, by decide⟩, _, rfl, d, g, 2147483647, rfl, hD1, by decide, by decide +kernel, fun r H2 r0 r1 hD2 k2 => ⟨_, _, rfl, rfl, _, _, rfl, hD2, k1.trans k2⟩⟩
    · rintro σ H1 ⟨x, y, rfl, hD1, k1⟩
      exact ⟨_, rfl, _, rfl, _, _, rfl, rfl, hn, k _ _ (Int.emod_nonneg _ (by omega)) (Int.emod_lt_of_pos _ hn) hD1 k1⟩
def sp_order : Sp := fun vs H Q _ => ∃ (d g : Addr) (n : Nat), vs = [.ref d, .int n] ∧ Deck H d g ∧ n ≤ 1000 ∧
  ∀ (p : Addr) (os : List Int) (H' : Hp), Std H H' d g → H p = none → H' p = some (.lst (os.map V.int)) → p ≠ d → p ≠ g → (∀ o ∈ os, 0 ≤ o ∧ o < n) → os.length = n → os.Nodup → Q (.ref p) H'
theorem erase_map : ∀ (l : List Int) (j : Nat), (l.map V.int).eraseIdx j = (l.eraseIdx j).map V.int
  | [], _ => rfl
  | _ :: _, 0 => rfl
  | a :: r, j + 1 => by
    show V.int a :: (r.map V.int).eraseIdx j = V.int a :: (r.eraseIdx j).map V.int
    rw [erase_map r j]
def rng (n : Nat) : List Int := (List.range n).map Int.ofNat
theorem rng_v (n : Nat) : rgV 0 (n : Int) = (rng n).map V.int := by
  unfold rgV rng
  rw [List.map_map, show ((n : Int) - 0).toNat = n by omega]
  refine List.map_congr_left fun i _ => ?_
  show V.int (0 + (i : Int)) = V.int (i : Int)
  rw [Int.zero_add]
theorem rng_in {n : Nat} {o : Int} (h : o ∈ rng n) : 0 ≤ o ∧ o < n := by
  obtain ⟨i, hi, rfl⟩ := List.mem_map.mp h
  have := List.mem_range.mp hi
  have e : Int.ofNat i = (i : Int) := rfl
  omega
theorem rng_nd (n : Nat) : (rng n).Nodup := by
  unfold rng List.Nodup
  rw [List.pairwise_map]
  exact (List.nodup_range (n := n)).imp fun h z => h (Int.ofNat.inj z)
theorem rng_len (n : Nat) : (rng n).length = n := by
  unfold rng
  rw [List.length_map, List.length_range]
theorem log20 {m : Int} (h : m.natAbs < 1048576) : m.natAbs.log2 < 9000 := by
  have h1 : m.natAbs.log2 < 20 := PySem.Flt.log2_lt_of (by decide) h
  omega
theorem perm_erase : ∀ (l : List Int) (j : Nat) (h : j < l.length), l.Perm (l[j] :: l.eraseIdx j)
  | a :: r, 0, _ => List.Perm.refl _
  | a :: r, j + 1, h => by
    have ih := perm_erase r j (Nat.lt_of_succ_lt_succ h)
    exact (List.Perm.cons a ih).trans (List.Perm.swap _ _ _)
theorem ok_law_order (T : Tx K w mg) : FnOk P w K mg base CX0 2 T.f_law_order T.d_law_order ["deck", "many"] sp_order := by
  refine T.F_law_order.ok sc_law_order (fun vs H Q E h => ?_) (fun cdv A outer s H vs Q E hr h => ?_)
  · obtain ⟨d, g, n, rfl, _⟩ := h
    rfl
  · obtain ⟨d, g, n, rfl, hD, hn, k⟩ := h
    refine ⟨_,
    (pss_cons
      (ps_set (i := 2) sc_law_order.nd rfl (.inr rfl) (pe_listRg rfl (by rfl) T.m_list (prg_1 (by rfl) T.m_range (pv 1))))
    (pss_one
      (ps_ret (pe_lc (own := [("k", 3)]) (g := gName 3) rfl sc_law_order.nd (pi_range1 (by rfl) T.m_range (pa_cons (pv 1) pa_nil)) (blkOk_by (N := ["deck", "many", "left", "k"]) (sc := defScope s_law_order) (own := [("k", 3)]) (by decide +kernel)) (fun _ _ _ _ _ => (pg_name (i := 3) sc_law_order.nd rfl (.inl rfl))) (fun _ _ _ _ _ => pts_nil) (fun _ _ _ _ _ => (pe_bmK (K := K) rfl PySem.F.plainAttrs_list PySem.F.slot_list_pop PySem.F.type_list_pop mt_popAt (pv 2) (pa_cons (pe_call (ok_law_draw T) hr (by rfl) T.g_law_draw T.F_law_draw.kp T.b_law_draw .nil pass0 (pa_cons (pv 0) (pa_cons (pe_callB (id := "len") (r := rLen K) call_len_seq (by rfl) T.m_len (by decide +kernel) (pa_cons (pv 2) pa_nil)) pa_nil))) pa_nil))))))), ?_⟩
    refine ⟨_, rfl, _, rfl, ?_, fun L hL => ?_⟩
    · exact RgOk.of_le (by omega) (by omega) (by omega) (by omega)
    rw [rng_v]
    have dL := hD.new hL
    have s1 : Std H (upd H L (.lst ((rng n).map V.int))) d g := (Std.refl hD).new hL
    have e1 : (upd H L (.lst ((rng n).map V.int))) L = some (.lst ((rng n).map V.int)) := upd_same
    generalize upd H L (.lst ((rng n).map V.int)) = H1 at s1 e1
    refine ⟨_, rfl, _, rfl, by omega, by omega, fun D hDn => ?_⟩
    have dD := s1.dk.new hDn
    have LD : L ≠ D := ne_of_none e1 hDn
    have fD := s1.free hDn
    refine lc_range (lo := 0) (n := ((n : Int)).toNat) (fun i H' => ∃ os ls : List Int, Std H H' d g ∧ H' L = some (.lst (ls.map V.int)) ∧ H' D = some (.lst (os.map V.int)) ∧ (os ++ ls).Nodup ∧ (∀ o ∈ os ++ ls, 0 ≤ o ∧ o < n) ∧ os.length = i ∧ ls.length + i = n) ?_ ?_ ?_
    · exact ⟨[], rng n, s1.new hDn, by rw [upd_ne LD]; exact e1, upd_same, rng_nd n, fun o ho => rng_in ho, rfl, rng_len n⟩
    · rintro i H2 hi ⟨os, ls, s2, eL, eD, nd, hin, ol, ll⟩
      have hi2 : i < n := by
        have : i < ((n : Int)).toNat := hi
        omega
      refine ⟨rfl, _, rfl, .inl ⟨rfl, _, .of eL⟩, _, rfl, _, rfl, L, _, rfl, .inl (.of eL), d, g, _, rfl, s2.dk, ?_, ?_, fun r H3 r0 r1 hD3 k3 => ?_⟩
      · show (0 : Int) < ((ls.map V.int).length : Int)
        rw [List.length_map]; omega
      · refine log20 ?_
        show (((ls.map V.int).length : Nat) : Int).natAbs < 1048576
        rw [List.length_map]; omega
      have r2 : r < ((ls.map V.int).length : Int) := r1
      rw [List.length_map] at r2
      obtain ⟨j, rfl⟩ := Int.eq_ofNat_of_zero_le r0
      have hj : j < ls.length := by omega
      have s3 := s2.draw hD3 k3
      have eL3 := k3 _ _ eL dL.1 dL.2
      have eD3 := k3 _ _ eD dD.1 dD.2
      have pm : (os ++ ls).Perm ((os ++ [ls[j]]) ++ ls.eraseIdx j) := by
        rw [List.append_assoc]
        exact List.Perm.append_left os (perm_erase ls j hj)
      refine ⟨L, ls.map V.int, j, j, V.int ls[j], rfl, rfl, eL3, by omega, by omega, (ixN_seq (ixN_nat (by rw [List.length_map]; exact hj))).1, by rw [List.getElem?_map, List.getElem?_eq_getElem hj]; rfl, os.map V.int, ?_, ?_, os ++ [ls[j]], ls.eraseIdx j, (s3.mut hL dL.1 dL.2).mut fD dD.1 dD.2, ?_, ?_, pm.nodup_iff.mp nd, fun o ho => hin o (pm.mem_iff.mpr ho), ?_, ?_⟩
      · rw [upd_ne LD.symm]; exact eD3
      · rw [List.length_map, ol]; exact small1000 (by omega)
      · rw [upd_ne LD, upd_same, erase_map]
      · rw [upd_same, List.map_append]; rfl
      · rw [List.length_append, ol]; rfl
      · rw [List.length_eraseIdx_of_lt hj]; omega
    · rintro H2 ⟨os, ls, s2, eL, eD, nd, hin, ol, ll⟩
      exact k D os H2 s2 fD eD dD.1 dD.2 (fun o ho => hin o (List.mem_append_left _ ho)) (by rw [ol]; omega) (List.nodup_append.mp nd).1
def sp_copied : Sp := fun vs H Q _ => ∃ (u : Addr) (x : Pat), vs = [.ref u] ∧ PatH H u x ∧ PatOk x ∧ ∀ (v G S : Addr) (ps : List Addr) (H' : Hp), Same H H' → PatX H' v x G S ps → H G = none → H S = none → (∀ p ∈ ps, H p = none) → ps.Nodup → G ∉ ps → S ∉ ps → Q (.ref v) H'
theorem ok_law_copied (T : Tx K w mg) : FnOk P w K mg base CX0 1 T.f_law_copied T.d_law_copied ["form"] sp_copied := by
  refine T.F_law_copied.ok sc_law_copied (fun vs H Q E h => ?_) (fun cdv A outer s H vs Q E hr h => ?_)
  · obtain ⟨u, x, rfl, _⟩ := h
    rfl
  · obtain ⟨u, x, rfl, ⟨G, S, ps, hu, hG, hS, pl, hp⟩, ok, k⟩ := h
    refine ⟨_,
    (pss_one
      (ps_ret (pe_tup (pa_cons (pe_ix ix_tup (pv 0) pe_int (fun _ _ => rfl)) (pa_cons (pe_lc (own := [("group", 1)]) (g := gName 1) rfl sc_law_copied.nd (pi_list (pe_ix ix_tup (pv 0) pe_int (fun _ _ => rfl))) (blkOk_by (N := ["form", "group"]) (sc := defScope s_law_copied) (own := [("group", 1)]) (by decide +kernel)) (fun _ _ _ _ _ => (pg_name (i := 1) sc_law_copied.nd rfl (.inl rfl))) (fun _ _ _ _ _ => pts_nil) (fun _ _ _ _ _ => (pe_callTy (T := "list") (r := rList K) call_list_of (by rfl) T.m_list (by decide +kernel) (pa_cons (pv 1) pa_nil)))) (pa_cons (pe_callTy call_list_of (by rfl) T.m_list (by decide +kernel) (pa_cons (pe_ix ix_tup (pv 0) pe_int (fun _ _ => rfl)) pa_nil)) (pa_cons (pe_ix ix_tup (pv 0) pe_int (fun _ _ => rfl)) pa_nil))))))), ?_⟩
    have hl := ok.len
    have few := ok.few
    refine ⟨_, rfl, u, _, _, _, rfl, rfl, .of hu, atI_nat (j := 0) rfl, _, rfl, u, _, _, _, rfl, rfl, .of hu, atI_nat (j := 1) rfl, G, rfl, ⟨_, .of hG⟩, fun D hD => ?_⟩
    refine lc_list (xs := ps.map V.ref) (fun i H' => Same H H' ∧ ∃ qs : List Addr, H' D = some (.lst (qs.map V.ref)) ∧ qs.length = i ∧ qs.Nodup ∧ D ∉ qs ∧ (∀ q ∈ qs, H q = none) ∧ ∀ (j : Nat) (q : Addr) (g : List Int), qs[j]? = some q → x.gs[j]? = some g → H' q = some (.lst (g.map V.int)))
      ⟨same_upd hD, [], upd_same, rfl, List.nodup_nil, List.not_mem_nil, (fun _ h => absurd h List.not_mem_nil), fun j q g h => by cases h⟩ (fun i H' _ h => .of (h.1 _ _ hG)) ?_ ?_
    · rintro i v H1 hi ⟨sm, qs, eD, ql, nd, nD, fq, cq⟩
      rw [List.getElem?_map] at hi
      obtain ⟨p, hpi, rfl⟩ := Option.map_eq_some_iff.mp hi
      have hil := (List.getElem?_eq_some_iff.mp hpi).1
      have hgi : x.gs[i]? = some x.gs[i] := List.getElem?_eq_getElem (by omega)
      have ep := hp i p _ hpi hgi
      refine ⟨rfl, _, rfl, p, _, rfl, .inl (.of (sm _ _ ep)), fun q hq => ?_⟩
      have sq := same_upd (o := .lst (x.gs[i].map V.int)) hq
      have fqH : H q = none := by
        cases e : H q with
        | none => rfl
        | some o => rw [sm _ _ e] at hq; cases hq
      have Dq : D ≠ q := ne_of_none eD hq
      refine ⟨qs.map V.ref, sq _ _ eD, ?_, fun b o e => ?_, qs ++ [q], ?_, ?_, ?_, ?_, ?_, fun j r g hj hg => ?_⟩
      · rw [List.length_map, ql]; exact small1000 (by omega)
      · rw [upd_ne (ne_of_none e hD)]; exact sq b o (sm b o e)
      · rw [upd_same, List.map_append]; rfl
      · rw [List.length_append, ql]; rfl
      · refine List.nodup_append.mpr ⟨nd, by simp, fun a ha b hb => ?_⟩
        rw [List.mem_singleton.mp hb]
        intro z
        subst z
        obtain ⟨j, hj⟩ := List.mem_iff_getElem?.mp ha
        have hj2 := (List.getElem?_eq_some_iff.mp hj).1
        have := cq j a x.gs[j] hj (List.getElem?_eq_getElem (by omega))
        rw [hq] at this
        cases this
      · intro m
        rcases List.mem_append.mp m with m | m
        · exact nD m
        · exact Dq (List.mem_singleton.mp m)
      · intro r hr
        rcases List.mem_append.mp hr with m | m
        · exact fq r m
        · rw [List.mem_singleton.mp m]; exact fqH
      · rcases Nat.lt_or_ge j qs.length with h | h
        · rw [List.getElem?_append_left h] at hj
          have e := cq j r g hj hg
          have rD : r ≠ D := fun z => nD (z ▸ List.mem_of_getElem? hj)
          rw [upd_ne rD]
          exact sq _ _ e
        · rw [List.getElem?_append_right h] at hj
          have hj3 : j - qs.length = 0 := by
            have := (List.getElem?_eq_some_iff.mp hj).1
            rw [List.length_singleton] at this
            omega
          rw [hj3] at hj
          cases hj
          have : j = i := by omega
          subst this
          rw [hgi] at hg
          cases hg
          rw [upd_ne Dq.symm, upd_same]
    · rintro H1 ⟨sm, qs, eD, ql, nd, nD, fq, cq⟩
      rw [List.length_map] at ql
      refine ⟨_, rfl, u, _, _, _, rfl, rfl, .of (sm _ _ hu), atI_nat (j := 2) rfl, S, _, rfl, .inl (.of (sm _ _ hS)), fun L hL => ?_⟩
      have sL := same_upd (o := .lst (x.ss.map V.int)) hL
      have fL : H L = none := by
        cases e : H L with
        | none => rfl
        | some o => rw [sm _ _ e] at hL; cases hL
      refine ⟨_, rfl, u, _, _, _, rfl, rfl, .of (sL _ _ (sm _ _ hu)), atI_nat (j := 3) rfl, (by show 4 ≤ sizeLine; decide), fun v hv => ?_⟩
      have sv := same_upd (o := .tup [.int x.st, .ref D, .ref L, .int x.en]) hv
      refine k v D L qs _ ((sm.trans sL).trans sv) ⟨upd_same, sv _ _ (sL _ _ eD), sv _ _ upd_same, by omega, fun j q g h1 h2 => sv _ _ (sL _ _ (cq j q g h1 h2))⟩ hD fL fq nd nD fun m => ?_
      obtain ⟨j, hj⟩ := List.mem_iff_getElem?.mp m
      have hj2 := (List.getElem?_eq_some_iff.mp hj).1
      have := cq j L x.gs[j] hj (List.getElem?_eq_getElem (by omega))
      rw [hL] at this
      cases this
/-! ### a drawn pattern -/
theorem Std.same {H0 H1 H2 : Hp} {d g : Addr} (s : Std H0 H1 d g) (t : Same H1 H2) : Std H0 H2 d g := ⟨s.dk.same t, s.kd.trans (Same.kd t)⟩
theorem map_snoc_ref (us : List Addr) (U : Addr) : (us ++ [U]).map V.ref = us.map V.ref ++ [V.ref U] := by rw [List.map_append]; rfl
def Ap (d g : Addr) (G S : Addr) (ps : List Addr) : Prop := (G ≠ d ∧ G ≠ g) ∧ (S ≠ d ∧ S ≠ g) ∧ ∀ p ∈ ps, p ≠ d ∧ p ≠ g
theorem PatX.keep {H H' : Hp} {d g u : Addr} {x : Pat} {G S : Addr} {ps : List Addr} (h : PatX H u x G S ps) (a : Ap d g G S ps) (hD : Deck H d g) (k : Kd d g H H') : PatX H' u x G S ps :=
  ⟨Kd.tk k hD _ _ h.1, k _ _ h.2.1 a.1.1 a.1.2, k _ _ h.2.2.1 a.2.1.1 a.2.1.2, h.2.2.2.1, fun i p q h1 h2 => k _ _ (h.2.2.2.2 i p q h1 h2) (a.2.2 p (List.mem_of_getElem? h1)).1 (a.2.2 p (List.mem_of_getElem? h1)).2⟩
def sp_pat : Sp := fun vs H Q _ => ∃ (d g : Addr), vs = [.ref d] ∧ Deck H d g ∧ ∀ (u : Addr) (x : Pat) (G S : Addr) (ps : List Addr) (H' : Hp), Std H H' d g → PatX H' u x G S ps → PatOk x → Ap d g G S ps → H G = none → H S = none → (∀ p ∈ ps, H p = none) → Q (.ref u) H'
set_option maxHeartbeats 1600000 in
theorem ok_law_pattern (T : Tx K w mg) : FnOk P w K mg base CX0 3 T.f_law_pattern T.d_law_pattern ["deck"] sp_pat := by
  refine T.F_law_pattern.ok sc_law_pattern (fun vs H Q E h => ?_) (fun cdv A outer s H vs Q E hr h => ?_)
  · obtain ⟨d, g, rfl, _⟩ := h
    rfl
  · obtain ⟨d, g, rfl, hD, k⟩ := h
    refine ⟨_,
    (pss_cons
      (ps_set (i := 1) sc_law_pattern.nd rfl (.inl rfl) (pe_ix ix_list (pe_lst (pa_cons pe_int (pa_cons pe_int (pa_cons pe_int pa_nil)))) (pe_call (ok_law_draw T) (hr.mono (by decide)) (by rfl) T.g_law_draw T.F_law_draw.kp T.b_law_draw .nil pass0 (pa_cons (pv 0) (pa_cons pe_int pa_nil))) (fun _ _ => rfl)))
    (pss_cons
      (ps_set (i := 2) sc_law_pattern.nd rfl (.inr rfl) (pe_ix ix_list (pe_lst (pa_cons pe_int (pa_cons pe_int (pa_cons (pe_op op_pow pe_int pe_int) pa_nil)))) (pe_call (ok_law_draw T) (hr.mono (by decide)) (by rfl) T.g_law_draw T.F_law_draw.kp T.b_law_draw .nil pass0 (pa_cons (pv 0) (pa_cons pe_int pa_nil))) (fun _ _ => rfl)))
    (pss_cons
      (ps_set (i := 3) sc_law_pattern.nd rfl (.inl rfl) (pe_lst pa_nil))
    (pss_cons
      (ps_for PassesOwn.never rfl (pi_range1 (by rfl) T.m_range (pa_cons (pe_op op_add pe_int (pe_call (ok_law_draw T) (hr.mono (by decide)) (by rfl) T.g_law_draw T.F_law_draw.kp T.b_law_draw .nil pass0 (pa_cons (pv 0) (pa_cons (pv 1) pa_nil)))) pa_nil)) (pg_name (i := 4) sc_law_pattern.nd rfl (.inl rfl))
        (pss_one
          (ps_expr (pe_bm PySem.F.plainAttrs_list PySem.F.slot_list_append PySem.F.type_list_append mt_append (pv 3) (pa_cons (pe_lc (own := [("m", 6)]) (g := gName 6) rfl sc_law_pattern.nd (pi_range1 (by rfl) T.m_range (pa_cons (pe_op op_add pe_int (pe_call (ok_law_draw T) (hr.mono (by decide)) (by rfl) T.g_law_draw T.F_law_draw.kp T.b_law_draw .nil pass0 (pa_cons (pv 0) (pa_cons (pv 1) pa_nil)))) pa_nil)) (blkOk_by (N := ["deck", "wide", "top", "groups", "k", "steps", "m", "group"]) (sc := defScope s_law_pattern) (own := [("m", 6)]) (by decide +kernel)) (fun _ _ _ _ _ => (pg_name (i := 6) sc_law_pattern.nd rfl (.inl rfl))) (fun _ _ _ _ _ => pts_nil) (fun _ _ _ _ _ => (pe_call (ok_law_great T) hr (by rfl) T.g_law_great T.F_law_great.kp T.b_law_great .nil pass0 (pa_cons (pv 0) (pa_cons (pv 2) pa_nil))))) pa_nil)))))
    (pss_cons
      (ps_setLc (i := 5) (own := [("group", 7)]) (g := gName 7) rfl sc_law_pattern.nd rfl rfl (sw_true rfl rfl rfl (by decide +kernel)) (pi_list (pe_slice sl_list (pv 3) (po_some pe_int) po_none)) (blkOk_by (N := ["deck", "wide", "top", "groups", "k", "steps", "m", "group"]) (sc := defScope s_law_pattern) (own := [("group", 7)]) (by decide +kernel)) (fun _ _ _ _ _ => (pg_name (i := 7) sc_law_pattern.nd rfl (.inl rfl))) (fun _ _ _ _ _ => pts_nil) (fun _ _ _ _ _ => (pe_op op_add pe_int (pe_call (ok_law_draw T) (hr.mono (by decide)) (by rfl) T.g_law_draw T.F_law_draw.kp T.b_law_draw .nil pass0 (pa_cons (pv 0) (pa_cons pe_int pa_nil))))))
    (pss_one
      (ps_ret (pe_tup (pa_cons (pe_call (ok_law_draw T) (hr.mono (by decide)) (by rfl) T.g_law_draw T.F_law_draw.kp T.b_law_draw .nil pass0 (pa_cons (pv 0) (pa_cons pe_int pa_nil))) (pa_cons (pv 3) (pa_cons (pv 5) (pa_cons (pe_call (ok_law_draw T) (hr.mono (by decide)) (by rfl) T.g_law_draw T.F_law_draw.kp T.b_law_draw .nil pass0 (pa_cons (pv 0) (pa_cons pe_int pa_nil))) pa_nil)))))))))))), ?_⟩
    refine ⟨(by show 3 ≤ sizeLine; decide), fun L hL => ?_⟩
    have s1 := (Std.refl hD).new (o := .lst ([2, 3, 12].map V.int)) hL
    have dL := hD.new hL
    refine ⟨_, rfl, d, g, 3, rfl, s1.dk, by decide, by decide +kernel, fun w0 H2 w00 w01 hD2 k2 => ?_⟩
    obtain ⟨wd, hm, gm⟩ := pickI (ms := [2, 3, 12]) w00 w01
    have hwd : 0 < wd ∧ wd ≤ 12 := by
      simp only [List.mem_cons, List.not_mem_nil, or_false] at hm
      rcases hm with rfl | rfl | rfl <;> decide
    have s2 := s1.draw hD2 k2
    refine ⟨L, _, _, V.int wd, rfl, rfl, .of (k2 _ _ upd_same dL.1 dL.2), at_of (j := w0.toNat) (by omega) gm, ?_⟩
    clear hm gm dL hL s1 k2 w00 w01
    -- top
    have ht : ∀ t ∈ [2, 12, (10 : Int) ^ (60 : Int).toNat], 0 < t ∧ t.natAbs < 2 ^ 200 := by decide +kernel
    refine ⟨_, _, rfl, rfl, ⟨by decide, by decide, by decide⟩, (by show 3 ≤ sizeLine; decide), fun L hL => ?_⟩
    have s3 := s2.new (o := .lst ([2, 12, (10 : Int) ^ (60 : Int).toNat].map V.int)) hL
    have dL := hD2.new hL
    refine ⟨_, rfl, d, g, 3, rfl, s3.dk, by decide, by decide +kernel, fun w1 H3 w10 w11 hD3 k3 => ?_⟩
    obtain ⟨t, hm, gm⟩ := pickI (ms := [2, 12, (10 : Int) ^ (60 : Int).toNat]) w10 w11
    obtain ⟨t0, t1⟩ := ht t hm
    have s4 := s3.draw hD3 k3
    refine ⟨L, _, _, V.int t, rfl, rfl, .of (k3 _ _ upd_same dL.1 dL.2), at_of (j := w1.toNat) (by omega) gm, ?_⟩
    clear hm gm dL hL s3 k3 w10 w11 ht s2 hD2
    -- groups
    refine ⟨Nat.zero_le _, fun D hDn => ?_⟩
    have fD := s4.free hDn
    have s5 := s4.new (o := .lst []) hDn
    have dD := hD3.new hDn
    refine ⟨_, rfl, _, rfl, d, g, wd, rfl, s5.dk, hwd.1, small_log (by omega), fun n H4 n0 n1 hD4 k4 => ⟨_, _, rfl, rfl, _, rfl, by omega, by omega, for_range (n := _) (fun i σ H' => ∃ (qs : List Addr) (gs : List (List Int)) (x4 : Option V), Std H H' d g ∧ H' D = some (.lst (qs.map V.ref)) ∧ qs.length = i ∧ gs.length = i ∧
      (∀ q ∈ qs, q ≠ d ∧ q ≠ g ∧ q ≠ D ∧ H q = none) ∧ (∀ r ∈ gs, 1 ≤ r.length ∧ r.length ≤ 20 ∧ ∀ n ∈ r, n.natAbs < 2 ^ 200) ∧ (∀ (j : Nat) (q : Addr) (r : List Int), qs[j]? = some q → gs[j]? = some r → H' q = some (.lst (r.map V.int))) ∧
      σ = [some (.ref d), some (.int wd), some (.int t), some (.ref D), x4, none, none, none]) ?_ ?_ ?_⟩⟩
    · exact ⟨[], [], none, s5.draw hD4 k4, k4 _ _ upd_same dD.1 dD.2, rfl, rfl, (fun _ h => absurd h List.not_mem_nil), (fun _ h => absurd h List.not_mem_nil), (fun j q r h => by cases h), rfl⟩
    · rintro i σ H5 hi ⟨qs, gs, x4, s6, eD, ql, gl, dq, gok, cq, rfl⟩
      refine ⟨_, rfl, .inl ⟨rfl, _, .of eD⟩, _, rfl, _, rfl, d, g, wd, rfl, s6.dk, hwd.1, small_log (by omega), fun m H6 m0 m1 hD6 k6 => ⟨_, _, rfl, rfl, _, rfl, by omega, by omega, fun B hB => ?_⟩⟩
      have s7 := s6.draw hD6 k6
      have fB := s7.free hB
      have dB := hD6.new hB
      have eD6 := k6 _ _ eD dD.1 dD.2
      have DB : D ≠ B := ne_of_none eD6 hB
      refine lc_range (lo := 0) (n := _) (fun j H' => ∃ r : List Int, Std H6 H' d g ∧ H' B = some (.lst (r.map V.int)) ∧ r.length = j ∧ ∀ n ∈ r, n.natAbs < 2 ^ 200) ?_ ?_ ?_
      · exact ⟨[], (Std.refl hD6).new hB, upd_same, rfl, fun _ h => absurd h List.not_mem_nil⟩
      · rintro j H7 hj ⟨r, s8, eB, rl, rz⟩
        refine ⟨rfl, _, rfl, _, rfl, d, g, t, rfl, s8.dk, t0, fun v H8 v0 v1 hD8 k8 => ⟨r.map V.int, k8 _ _ eB dB.1 dB.2, ?_, r ++ [v], (s8.draw hD8 k8).mut hB dB.1 dB.2, ?_, ?_, ?_⟩⟩
        · rw [List.length_map, rl]; exact small1000 (by omega)
        · rw [upd_same, List.map_append]; rfl
        · rw [List.length_append, rl]; rfl
        · intro n hn
          rcases List.mem_append.mp hn with h | h
          · exact rz n h
          · rw [List.mem_singleton.mp h]; omega
      · rintro H7 ⟨r, s8, eB, rl, rz⟩
        have s9 := s7.trans s8
        have eD7 := s8.kd _ _ eD6 dD.1 dD.2
        have nqB : ∀ q ∈ qs, q ≠ B := fun q hq => by
          obtain ⟨j, hj⟩ := List.mem_iff_getElem?.mp hq
          have hj2 := (List.getElem?_eq_some_iff.mp hj).1
          obtain ⟨a1, a2, _, _⟩ := dq q hq
          exact ne_of_none (k6 _ _ (cq j q gs[j] hj (List.getElem?_eq_getElem (by omega))) a1 a2) hB
        refine ⟨D, _, _, rfl, rfl, eD7, ?_, qs ++ [B], gs ++ [r], _, s9.mut fD dD.1 dD.2, ?_, ?_, ?_, ?_, ?_, fun j q r' hj hr' => ?_, rfl⟩
        · rw [List.length_map]; exact small1000 (by omega)
        · rw [upd_same, map_snoc_ref]
        · rw [List.length_append, ql]; rfl
        · rw [List.length_append, gl]; rfl
        · intro q hq
          rcases List.mem_append.mp hq with h | h
          · exact dq q h
          · rw [List.mem_singleton.mp h]; exact ⟨dB.1, dB.2, DB.symm, fB⟩
        · intro r' hr'
          rcases List.mem_append.mp hr' with h | h
          · exact gok r' h
          · rw [List.mem_singleton.mp h]
            exact ⟨by omega, by omega, rz⟩
        · rcases Nat.lt_or_ge j qs.length with h | h
          · rw [List.getElem?_append_left h] at hj
            rw [List.getElem?_append_left (by omega)] at hr'
            obtain ⟨a1, a2, a3, _⟩ := dq q (List.mem_of_getElem? hj)
            rw [upd_ne a3]
            exact s8.kd _ _ (k6 _ _ (cq j q r' hj hr') a1 a2) a1 a2
          · rw [List.getElem?_append_right h] at hj
            rw [List.getElem?_append_right (by omega)] at hr'
            have hj3 : j - qs.length = 0 := by
              have := (List.getElem?_eq_some_iff.mp hj).1
              rw [List.length_singleton] at this
              omega
            rw [hj3] at hj
            rw [show j - gs.length = 0 by omega] at hr'
            cases hj
            cases hr'
            rw [upd_ne DB.symm]
            exact eB
    · rintro σ H5 ⟨qs, gs, x4, s6, eD, ql, gl, dq, gok, cq, rfl⟩
      have q1 : 1 ≤ qs.length ∧ qs.length ≤ 13 := by omega
      -- steps
      refine ⟨_, rfl, _, rfl, D, _, rfl, .of eD, fun C hC => ?_⟩
      have ec : cutV (qs.map V.ref) (some 1) none = (qs.drop 1).map V.ref := by rw [List.map_drop]; exact cut_drop _ 1
      rw [ec]
      have sC := same_upd (o := .lst ((qs.drop 1).map V.ref)) hC
      have eC := upd_same (H := H5) (a := C) (o := .lst ((qs.drop 1).map V.ref))
      have s7 := s6.new (o := .lst ((qs.drop 1).map V.ref)) hC
      have dC := s6.dk.new hC
      have eD6 := sC _ _ eD
      have cq6 : ∀ (j : Nat) (q : Addr) (r : List Int), qs[j]? = some q → gs[j]? = some r → (upd H5 C (.lst ((qs.drop 1).map V.ref))) q = some (.lst (r.map V.int)) := fun j q r h1 h2 => sC _ _ (cq j q r h1 h2)
      generalize upd H5 C (.lst ((qs.drop 1).map V.ref)) = H6 at *
      refine ⟨C, rfl, ⟨_, .of eC⟩, fun B hB => ?_⟩
      have fB := s7.free hB
      have dB := s7.dk.new hB
      refine lc_list (xs := (qs.drop 1).map V.ref) (fun j H' => ∃ r : List Int, Std H6 H' d g ∧ H' B = some (.lst (r.map V.int)) ∧ r.length = j ∧ ∀ n ∈ r, n = 1 ∨ n = 2) ?_ ?_ ?_ ?_
      · exact ⟨[], (Std.refl s7.dk).new hB, upd_same, rfl, fun _ h => absurd h List.not_mem_nil⟩
      · rintro j H' _ ⟨r, s8, _⟩
        exact .of (s8.kd _ _ eC dC.1 dC.2)
      · rintro j v H7 hj ⟨r, s8, eB, rl, rz⟩
        have hjl := (List.getElem?_eq_some_iff.mp hj).1
        rw [List.length_map, List.length_drop] at hjl
        refine ⟨rfl, _, rfl, d, g, 2, rfl, s8.dk, by decide, by decide +kernel, fun v H8 v0 v1 hD8 k8 => ⟨_, _, rfl, rfl, r.map V.int, k8 _ _ eB dB.1 dB.2, ?_, r ++ [1 + v], (s8.draw hD8 k8).mut hB dB.1 dB.2, ?_, ?_, ?_⟩⟩
        · rw [List.length_map, rl]; exact small1000 (by omega)
        · rw [upd_same, List.map_append]; rfl
        · rw [List.length_append, rl]; rfl
        · intro n hn
          rcases List.mem_append.mp hn with h | h
          · exact rz n h
          · rw [List.mem_singleton.mp h]; omega
      · rintro H7 ⟨r, s8, eB, rl, rz⟩
        rw [List.length_map, List.length_drop] at rl
        refine ⟨_, rfl, d, g, 2, rfl, s8.dk, by decide, by decide +kernel, fun a H8 a0 a1 hD8 k8 => ?_⟩
        have s9 := s8.draw hD8 k8
        refine ⟨_, rfl, _, rfl, _, rfl, d, g, 2, rfl, hD8, by decide, by decide +kernel, fun b H9 b0 b1 hD9 k9 => ⟨(by show 4 ≤ sizeLine; decide), fun u hu => ?_⟩⟩
        have su := same_upd (o := .tup [.int a, .ref D, .ref B, .int b]) hu
        have s10 := s9.draw hD9 k9
        have s11 := s10.new (o := .tup [.int a, .ref D, .ref B, .int b]) hu
        have s12 := s7.trans s11
        refine k u ⟨a, gs, r, b⟩ D B qs _ s12 ⟨upd_same, s11.kd _ _ eD6 dD.1 dD.2, su _ _ (k9 _ _ (k8 _ _ eB dB.1 dB.2) dB.1 dB.2), by show qs.length = gs.length; omega, fun j q r' h1 h2 => ?_⟩
          ⟨by show gs.length = r.length + 1; omega, by show r.length ≤ 20; omega, gok, rz, by show a = 0 ∨ a = 1; omega, by show b = 0 ∨ b = 1; omega⟩ ⟨dD, dB, fun p hp => ⟨(dq p hp).1, (dq p hp).2.1⟩⟩ fD fB fun p hp => (dq p hp).2.2.2
        obtain ⟨a1, a2, _, _⟩ := dq q (List.mem_of_getElem? h1)
        exact s11.kd _ _ (cq6 j q r' h1 h2) a1 a2
/-! ### the law -/
theorem iteEq {x : Bool} {A B : Prop} (h : x = true) (hB : B) : if (!x) = true then A else B := by
  rw [h]
  exact iteF hB
theorem deck_mv {H : Hp} {d g R : Addr} {o : HO} (h : Deck H d g) (n : R ≠ d ∧ R ≠ g) : Deck (upd H R o) d g := by
  obtain ⟨gs, a0, m0, g1, g2, g3⟩ := h
  exact ⟨gs, a0, m0, by rw [upd_ne n.1.symm]; exact g1, by rw [upd_ne n.2.symm]; exact g2, g3⟩
/-- a pattern as data -/
def gdata (gs : List (List Int)) : List PyData := gs.map fun g => .list (g.map PyData.int)
def pdata (x : Pat) : PyData := .tuple [.int x.st, .list (gdata x.gs), .list (x.ss.map PyData.int), .int x.en]
theorem lay_gs : ∀ gs : List (List Int), PyData.canLayAll0 (gdata gs) = true
  | [] => rfl
  | g :: r => by
    show (PyData.canLayAll0 (g.map PyData.int) && PyData.canLayAll0 (gdata r)) = true
    rw [lay_ints, lay_gs r]
    rfl
theorem depth_gs : ∀ gs : List (List Int), PyData.depthAll (gdata gs) ≤ 2
  | [] => by simp [gdata, PyData.depthAll]
  | g :: r => by
    have ih := depth_gs r
    have h := depth_ints g
    unfold gdata at ih ⊢
    simp only [List.map_cons, PyData.depthAll, PyData.depth]
    omega
theorem pat_ok (x : Pat) : SeqAt.shaped (pdata x) = true := by
  unfold SeqAt.shaped
  rw [Bool.and_eq_true]
  have h1 := depth_gs x.gs
  have h2 := depth_ints x.ss
  refine ⟨?_, decide_eq_true (by simp only [pdata, PyData.depth, PyData.depthAll]; omega)⟩
  show (true && (PyData.canLayAll0 (gdata x.gs) && (PyData.canLayAll0 (x.ss.map PyData.int) && (true && true)))) = true
  rw [lay_gs, lay_ints]
  rfl
theorem dp_gs {K : PySem.W.Frag} {H : Hp} : ∀ {ps : List Addr} {gs : List (List Int)}, ps.length = gs.length → (∀ (i : Nat) (p : Addr) (g : List Int), ps[i]? = some p → gs[i]? = some g → H p = some (.lst (g.map V.int))) → DpAll K H (ps.map V.ref) (gdata gs)
  | [], [], _, _ => .nil
  | p :: ps, g :: gs, hl, h => .cons (.lst (.of (h 0 p g rfl rfl)) dp_ints) (dp_gs (by simpa using hl) fun i q r h1 h2 => h (i + 1) q r h1 h2)
theorem dp_pat {K : PySem.W.Frag} {H : Hp} {u : Addr} {x : Pat} {G S : Addr} {ps : List Addr} (h : PatX H u x G S ps) : Dp K H (.ref u) (pdata x) :=
  .tup (.of h.1) (.cons (.int _) (.cons (.lst (.of h.2.1) (dp_gs h.2.2.2.1 h.2.2.2.2)) (.cons (.lst (.of h.2.2.1) dp_ints) (.cons (.int _) .nil))))
def Row (H : Hp) (d g R u : Addr) : Prop := ∃ (x : Pat) (G S : Addr) (ps : List Addr), PatX H u x G S ps ∧ PatOk x ∧ Ap d g G S ps ∧ G ≠ R ∧ S ≠ R ∧ R ∉ ps
theorem Row.keep {H H' : Hp} {d g R u : Addr} (h : Row H d g R u) (hD : Deck H d g) (k : Kd d g H H') : Row H' d g R u := by
  obtain ⟨x, G, S, ps, h1, h2, h3, h4⟩ := h
  exact ⟨x, G, S, ps, h1.keep h3 hD k, h2, h3, h4⟩
theorem Row.mut {H : Hp} {d g R u : Addr} {xs : List V} {o : HO} (h : Row H d g R u) (hR : H R = some (.lst xs)) : Row (upd H R o) d g R u := by
  obtain ⟨x, G, S, ps, ⟨h1, h2, h3, h4, h5⟩, ok, ap, n1, n2, n3⟩ := h
  refine ⟨x, G, S, ps, ⟨?_, ?_, ?_, h4, fun i p q hp hq => ?_⟩, ok, ap, n1, n2, n3⟩
  · rw [upd_ne (ne_of h1 hR (by intro z; cases z))]; exact h1
  · rw [upd_ne n1]; exact h2
  · rw [upd_ne n2]; exact h3
  · have pR : p ≠ R := fun z => n3 (by rw [← z]; exact List.mem_of_getElem? hp)
    rw [upd_ne pR]; exact h5 i p q hp hq
def spLaw (K : PySem.W.Frag) : Sp := fun vs H Q _ => ∃ (a : Addr) (ns : List Int), vs = [.ref a] ∧ SqL K H a (ns.map V.int) ∧ ns.length ≤ 63 ∧ ∀ H', Q (.bl true) H'
set_option maxHeartbeats 1600000 in
theorem ok_law (T : Tx K w mg) : FnOk P w K mg base CX0 4 T.f_law T.d_law ["script"] (spLaw K) := by
  refine T.F_law.ok sc_law (fun vs H Q E h => ?_) (fun cdv A outer s H vs Q E hr h => ?_)
  · obtain ⟨a, ns, rfl, _⟩ := h
    rfl
  · obtain ⟨a, ns, rfl, hS, hl, k⟩ := h
    refine ⟨_,
    (pss_cons
      (ps_set (i := 1) sc_law.nd rfl (.inr rfl) (pe_call (ok_law_deck T) (hr.mono (by decide)) (by rfl) T.g_law_deck T.F_law_deck.kp T.b_law_deck .nil pass0 (pa_cons (pv 0) pa_nil)))
    (pss_cons
      (ps_setLc (i := 2) (own := [("k", 7)]) (g := gName 7) rfl sc_law.nd rfl rfl (sw_true rfl rfl rfl (by decide +kernel)) (pi_range1 (by rfl) T.m_range (pa_cons (pe_op op_add pe_int (pe_call (ok_law_draw T) (hr.mono (by decide)) (by rfl) T.g_law_draw T.F_law_draw.kp T.b_law_draw .nil pass0 (pa_cons (pv 1) (pa_cons pe_int pa_nil)))) pa_nil)) (blkOk_by (N := ["script", "deck", "rows", "at", "handed", "line", "changed", "k"]) (sc := defScope s_law) (own := [("k", 7)]) (by decide +kernel)) (fun _ _ _ _ _ => (pg_name (i := 7) sc_law.nd rfl (.inl rfl))) (fun _ _ _ _ _ => pts_nil) (fun _ _ _ _ _ => (pe_call (ok_law_pattern T) hr (by rfl) T.g_law_pattern T.F_law_pattern.kp T.b_law_pattern .nil pass0 (pa_cons (pv 1) pa_nil))))
    (pss_cons
      (ps_for PassesOwn.never rfl (pi_list (pe_op op_rep (pe_call (ok_law_order T) (hr.mono (by decide)) (by rfl) T.g_law_order T.F_law_order.kp T.b_law_order .nil pass0 (pa_cons (pv 1) (pa_cons (pe_callB call_len_seq (by rfl) T.m_len (by decide +kernel) (pa_cons (pv 2) pa_nil)) pa_nil))) pe_int)) (pg_name (i := 3) sc_law.nd rfl (.inl rfl))
        (pss_cons
          (ps_set (i := 4) sc_law.nd rfl (.inl rfl) (pe_call (ok_law_copied T) (hr.mono (by decide)) (by rfl) T.g_law_copied T.F_law_copied.kp T.b_law_copied .nil pass0 (pa_cons (pe_ix ix_list (pv 2) (pv 3) (fun _ _ => rfl)) pa_nil)))
        (pss_cons
          (ps_set (i := 5) sc_law.nd rfl (.inl rfl) (pe_call (ok_show_pattern T) (hr.mono (by decide)) (by rfl) T.g_show_pattern T.F_show_pattern.kp T.b_show_pattern .nil pass0 (pa_cons (pv 4) pa_nil)))
        (pss_cons
          (ps_if (PW.pt (pw_or (pt_not (pt_val (pe_callB call_isi (by rfl) T.m_isinstance (by decide +kernel) (pa_cons (pv 5) (pa_cons (pe_bltn (v := .ty "str") (by rfl) T.m_str (by decide +kernel) rfl) pa_nil))))) (pw_or (pt_cmpR op_ne (pv 5) (pe_call (ok_law_pattern_text T) (hr.mono (by decide)) (by rfl) T.g_law_pattern_text T.F_law_pattern_text.kp T.b_law_pattern_text .nil pass0 (pa_cons (pe_ix ix_list (pv 2) (pv 3) (fun _ _ => rfl)) pa_nil)) (nomark _)) (pw_or1 (pt_cmpR (op_neD hr.units) (pv 4) (pe_ix ix_list (pv 2) (pv 3) (fun _ _ => rfl)) (nomark _))))))
            (pss_one
              (ps_ret pe_bl))
            pss_nil)
        (pss_cons
          (ps_asg (pe_call (ok_law_draw T) (hr.mono (by decide)) (by rfl) T.g_law_draw T.F_law_draw.kp T.b_law_draw .nil pass0 (pa_cons (pv 1) (pa_cons pe_int pa_nil))) (pg_sub (pe_ix ix_list (pe_ix ix_tup (pv 4) pe_int (fun _ _ => rfl)) (pe_call (ok_law_draw T) (hr.mono (by decide)) (by rfl) T.g_law_draw T.F_law_draw.kp T.b_law_draw .nil pass0 (pa_cons (pv 1) (pa_cons (pe_callB call_len_seq (by rfl) T.m_len (by decide +kernel) (pa_cons (pe_ix ix_tup (pv 4) pe_int (fun _ _ => rfl)) pa_nil)) pa_nil))) (fun _ _ => rfl)) pe_int set_list))
        (pss_cons
          (ps_set (i := 6) sc_law.nd rfl (.inl rfl) (pe_call (ok_law_copied T) (hr.mono (by decide)) (by rfl) T.g_law_copied T.F_law_copied.kp T.b_law_copied .nil pass0 (pa_cons (pv 4) pa_nil)))
        (pss_one
          (ps_if (PW.pt (pw_or (pt_cmpR op_ne (pe_call (ok_show_pattern T) (hr.mono (by decide)) (by rfl) T.g_show_pattern T.F_show_pattern.kp T.b_show_pattern .nil pass0 (pa_cons (pv 4) pa_nil)) (pe_call (ok_law_pattern_text T) (hr.mono (by decide)) (by rfl) T.g_law_pattern_text T.F_law_pattern_text.kp T.b_law_pattern_text .nil pass0 (pa_cons (pv 6) pa_nil)) (nomark _)) (pw_or1 (pt_cmpR op_ne (pe_callN0 (ok_show_pattern T) (hr.mono (by decide)) (by rfl) T.g_show_pattern T.F_show_pattern.kp (kb_show_pattern T) pass0 (pk_cons (pe_call (ok_law_copied T) (hr.mono (by decide)) (by rfl) T.g_law_copied T.F_law_copied.kp T.b_law_copied .nil pass0 (pa_cons (pe_ix ix_list (pv 2) (pv 3) (fun _ _ => rfl)) pa_nil)) pk_nil)) (pv 5) (nomark _)))))
            (pss_one
              (ps_ret pe_bl))
            pss_nil))))))))
    (pss_one
      (ps_ret pe_bl))))), ?_⟩
    refine ⟨_, rfl, a, ns, rfl, hS, hl, fun d g H1 s1 hD1 => ?_⟩
    -- rows
    refine ⟨_, rfl, d, g, 4, rfl, hD1, by decide, by decide +kernel, fun n H2 n0 n1 hD2 k2 => ⟨_, _, rfl, rfl, _, rfl, by omega, by omega, fun R hRn => ?_⟩⟩
    have dR := hD2.new hRn
    refine lc_range (lo := 0) (n := _) (fun i H' => ∃ us : List Addr, Std H2 H' d g ∧ H' R = some (.lst (us.map V.ref)) ∧ (∀ u ∈ us, Row H' d g R u) ∧ us.length = i) ?_ ?_ ?_
    · exact ⟨[], (Std.refl hD2).new hRn, upd_same, (fun _ h => absurd h List.not_mem_nil), rfl⟩
    · rintro i H3 hi ⟨us, s3, eR, rows, ul⟩
      refine ⟨rfl, _, rfl, d, g, rfl, s3.dk, fun u x G S ps H4 s4 hx ok ap fG fS fp => ?_⟩
      have eR4 := s4.kd _ _ eR dR.1 dR.2
      have nG : G ≠ R := (ne_of_none eR fG).symm
      have nS : S ≠ R := (ne_of_none eR fS).symm
      have np : R ∉ ps := fun m => ne_of_none eR (fp R m) rfl
      refine ⟨us.map V.ref, eR4, ?_, us ++ [u], (s3.trans s4).mut hRn dR.1 dR.2, ?_, fun q hq => ?_, ?_⟩
      · rw [List.length_map, ul]; exact small1000 (by omega)
      · rw [upd_same, map_snoc_ref]
      · rcases List.mem_append.mp hq with m | m
        · exact ((rows q m).keep s3.dk s4.kd).mut eR4
        · rw [List.mem_singleton.mp m]
          exact Row.mut ⟨x, G, S, ps, hx, ok, ap, nG, nS, np⟩ eR4
      · rw [List.length_append, ul]; rfl
    rintro H4 ⟨qs, s4, eR4, rows4, pl⟩
    have hD4 := s4.dk
    have pl4 : qs.length ≤ 4 := by omega
    have pl5 : 1 ≤ qs.length := by omega
    clear pl s4 k2 hRn n0 n1 hD2 hD1 s1
    -- all asked
    refine ⟨_, rfl, _, rfl, R, _, rfl, .inl (.of eR4), d, g, _, rfl, hD4, ?_, fun q os H5 s5 fq eq n1 n2 oin ol ond => ⟨q, 2, _, rfl, rfl, eq, by decide, by decide, ?_, fun W hW => ⟨W, rfl, ⟨_, .of upd_same⟩, ?_⟩⟩⟩
    · rw [List.length_map]; omega
    · rw [List.length_map, ol, List.length_map]
      exact Nat.le_of_lt (small1000 (by show qs.length * 2 ≤ 1000; omega))
    have t6 : Std H4 (upd H5 W (.lst (List.replicate (2 : Int).toNat (os.map V.int)).flatten)) d g := s5.new hW
    have dW := s5.dk.new hW
    have eW := upd_same (H := H5) (a := W) (o := .lst (List.replicate (2 : Int).toNat (os.map V.int)).flatten)
    have inW : ∀ v ∈ (List.replicate (2 : Int).toNat (os.map V.int)).flatten, ∃ o : Nat, v = V.int (o : Int) ∧ o < qs.length := fun v hv => by
      obtain ⟨l, hl, hv⟩ := List.mem_flatten.mp hv
      rw [List.eq_of_mem_replicate hl] at hv
      obtain ⟨o, ho, rfl⟩ := List.mem_map.mp hv
      obtain ⟨h1, h2⟩ := oin o ho
      rw [List.length_map] at h2
      obtain ⟨m, rfl⟩ := Int.eq_ofNat_of_zero_le h1
      exact ⟨m, rfl, by omega⟩
    generalize (List.replicate (2 : Int).toNat (os.map V.int)).flatten = ws at *
    generalize upd H5 W (.lst ws) = H6 at *
    clear hW ond ol oin n1 n2 eq fq s5 H5
    refine for_list (xs := ws) (fun i σ H' => Std H6 H' d g ∧ ∃ x3 x4 x5 x6 : Option V, σ = [some (.ref a), some (.ref d), some (.ref R), x3, x4, x5, x6, none]) ⟨Std.refl t6.dk, _, _, _, _, rfl⟩ (fun i σ H' _ h => .of (h.1.kd _ _ eW dW.1 dW.2)) ?_ ?_
    · rintro i v σ H7 hi ⟨s7, x3, x4, x5, x6, rfl⟩
      obtain ⟨o, rfl, ho⟩ := inW v (List.mem_of_getElem? hi)
      have t7 := t6.trans s7
      have eR7 := t7.kd _ _ eR4 dR.1 dR.2
      have go : (qs.map V.ref)[o]? = some (V.ref qs[o]) := by rw [List.getElem?_map, List.getElem?_eq_getElem ho]; rfl
      obtain ⟨x, G, S, ps, hx, ok, ap, _⟩ := (rows4 _ (List.getElem_mem ho)).keep hD4 t7.kd
      generalize qs[o] = u at *
      -- handed, line
      refine ⟨_, rfl, _, rfl, R, _, _, V.ref u, rfl, rfl, .of eR7, at_of (j := o) (by omega) go, u, x, rfl, hx.h, ok, fun v G2 S2 ps2 H8 s8 hv fG fS fp nd nG nS => ?_⟩
      have t8 := t7.same s8
      have ap2 : Ap d g G2 S2 ps2 := ⟨t7.dk.new fG, t7.dk.new fS, fun p hp => t7.dk.new (fp p hp)⟩
      refine ⟨_, rfl, v, x, rfl, hv.h, ok, fun H9 s9 => ?_⟩
      have s79 := s8.trans s9
      have hv9 := hv.same s9
      refine ⟨_, rfl, _, _, _, _, true, rfl, .ty "str", .base (.str _), kit_ty (by decide +kernel), _, rfl, ?_⟩
      refine ⟨_, rfl, _, rfl, _, rfl, R, _, _, V.ref u, rfl, rfl, .of (s79 _ _ eR7), at_of (j := o) (by omega) go, u, x, rfl, (hx.same s79).h, ok, fun H10 s10' => ⟨rfl, _, rfl, iteNS rfl ?_⟩⟩
      have s10 := s79.trans s10'
      have hv10 := hv9.same s10'
      refine ⟨_, rfl, _, rfl, _, rfl, R, _, _, V.ref u, rfl, rfl, .of (s10 _ _ eR7), at_of (j := o) (by omega) go, pdata x, pdata x, dp_pat hv10, dp_pat (hx.same s10), pat_ok x, pat_ok x, _, rfl, iteEq (SeqAt.eqv_refl _ (SeqAt.canLay_of_shaped (pat_ok x))) ?_⟩
      -- one entry changed
      have t10 := t7.same s10
      refine ⟨_, rfl, d, g, 100, rfl, t10.dk, by decide, by decide +kernel, fun n1 H11 n10 n11 hD11 k11 => ?_⟩
      have t11 := t10.draw hD11 k11
      have hv11 := hv10.keep ap2 t10.dk k11
      have gl := ok.len
      have few := ok.few
      have pl2 := hv11.2.2.2.1
      refine ⟨_, rfl, v, _, _, _, rfl, rfl, .of hv11.1, atI_nat (j := 1) rfl, _, rfl, _, rfl, v, _, _, _, rfl, rfl, .of hv11.1, atI_nat (j := 1) rfl, G2, _, rfl, .inl (.of hv11.2.1), d, g, _, rfl, t11.dk, ?_, ?_, fun n2 H12 n20 n21 hD12 k12 => ?_⟩
      · show (0 : Int) < ((ps2.map V.ref).length : Int)
        rw [List.length_map]; omega
      · exact small_log (by show (((ps2.map V.ref).length : Nat) : Int).natAbs < 1024; rw [List.length_map]; omega)
      have n22 : n2 < ((ps2.map V.ref).length : Int) := n21
      rw [List.length_map] at n22
      obtain ⟨j, rfl⟩ := Int.eq_ofNat_of_zero_le n20
      have hj : j < ps2.length := by omega
      have t12 := t11.draw hD12 k12
      have hv12 := hv11.keep ap2 t11.dk k12
      have hpj : ps2[j]? = some ps2[j] := List.getElem?_eq_getElem hj
      have hgj : x.gs[j]? = some x.gs[j] := List.getElem?_eq_getElem (by omega)
      have ep := hv12.2.2.2.2 j _ _ hpj hgj
      obtain ⟨g1, g2, g3⟩ := ok.gr _ (List.mem_of_getElem? hgj)
      have fpj := fp _ (List.getElem_mem hj)
      have apj := ap2.2.2 _ (List.getElem_mem hj)
      have w12 : Std H7 H12 d g := (((Std.refl t7.dk).same s10).draw hD11 k11).draw hD12 k12
      refine ⟨G2, _, _, V.ref ps2[j], rfl, rfl, .of hv12.2.1, atI_nat (j := j) (by rw [List.getElem?_map, hpj]; rfl), ps2[j], _, _, 0, rfl, rfl, ep, ixN_nat (j := 0) (by rw [List.length_map]; omega), ?_⟩
      have w13 : Std H7 (upd H12 ps2[j] (.lst ((x.gs[j].map V.int).set 0 (V.int n1)))) d g := w12.mut fpj apj.1 apj.2
      have hv13 : PatX (upd H12 ps2[j] (.lst ((x.gs[j].map V.int).set 0 (V.int n1)))) v ⟨x.st, x.gs.set j (x.gs[j].set 0 n1), x.ss, x.en⟩ G2 S2 ps2 := by
        refine ⟨?_, ?_, ?_, by rw [List.length_set]; exact hv12.2.2.2.1, fun i p q h1 h2 => ?_⟩
        · rw [upd_ne (ne_of hv12.1 ep (by intro z; cases z))]; exact hv12.1
        · rw [upd_ne (fun z => nG (by rw [z]; exact List.getElem_mem hj))]; exact hv12.2.1
        · rw [upd_ne (fun z => nS (by rw [z]; exact List.getElem_mem hj))]; exact hv12.2.2.1
        · by_cases e : i = j
          · subst e
            rw [hpj] at h1
            cases h1
            have h2 : (x.gs.set i (x.gs[i].set 0 n1))[i]? = some q := h2
            rw [List.getElem?_set_self (by omega)] at h2
            cases h2
            rw [upd_same, ← List.map_set]
          · have h2 : (x.gs.set j (x.gs[j].set 0 n1))[i]? = some q := h2
            rw [List.getElem?_set_ne (fun z => e z.symm)] at h2
            have np : p ≠ ps2[j] := fun z => e (nd_ix nd h1 (by rw [z]; exact hpj))
            rw [upd_ne np]
            exact hv12.2.2.2.2 i p q h1 h2
      have oky : PatOk ⟨x.st, x.gs.set j (x.gs[j].set 0 n1), x.ss, x.en⟩ := by
        refine ⟨by show (x.gs.set j _).length = _; rw [List.length_set]; exact ok.len, ok.few, fun r hr => ?_, ok.sg, ok.s0, ok.e0⟩
        rcases List.mem_or_eq_of_mem_set hr with h | h
        · exact ok.gr r h
        · rw [h]
          refine ⟨by rw [List.length_set]; exact g1, by rw [List.length_set]; exact g2, fun n hn => ?_⟩
          rcases List.mem_or_eq_of_mem_set hn with h | h
          · exact g3 n h
          · rw [h]
            have : (100 : Nat) ≤ 2 ^ 200 := by decide +kernel
            omega
      generalize upd H12 ps2[j] (.lst ((x.gs[j].map V.int).set 0 (V.int n1))) = H13 at *
      generalize (⟨x.st, x.gs.set j (x.gs[j].set 0 n1), x.ss, x.en⟩ : Pat) = y at *
      have hx13 := hx.keep ap t7.dk w13.kd
      have eR13 := w13.kd _ _ eR7 dR.1 dR.2
      clear w12 ep fpj apj hv12 hv11 hv10 hv9 hv t12 t11 t10 s10 s10' s79 s9 s8
      -- asked again
      refine ⟨_, rfl, v, y, rfl, hv13.h, oky, fun v3 G3 S3 ps3 H14 s14 hv3 _ _ _ _ _ _ => ?_⟩
      refine ⟨_, rfl, v, y, rfl, (hv13.same s14).h, oky, fun H15 s15 => ⟨_, rfl, v3, y, rfl, (hv3.same s15).h, oky, fun H16 s16 => ⟨rfl, _, rfl, iteNS rfl ?_⟩⟩⟩
      have s17 := (s14.trans s15).trans s16
      exact ⟨_, rfl, _, rfl, R, _, _, V.ref u, rfl, rfl, .of (s17 _ _ eR13), at_of (j := o) (by omega) go, u, x, rfl, (hx13.same s17).h, ok, fun v4 G4 S4 ps4 H18 s18 hv4 _ _ _ _ _ _ => ⟨rfl, rfl, v4, x, rfl, hv4.h, ok, fun H19 s19 => ⟨_, rfl, rfl, _, rfl, iteNS rfl ⟨s7.trans (((w13.same s17).same s18).same s19), _, _, _, _, rfl⟩⟩⟩⟩
    · rintro σ H7 _
      exact k _
end
theorem all_mk {l : PySem.W.OpenLaw} {w : World} {K : PySem.W.Frag} {h : Heap} {mg : Str → Option Value} {fa f_show_pattern f_law_deck f_law_draw f_law_great f_law_pattern f_law_pattern_text f_law_copied f_law_order f_law : Addr} (X : K.In h) (G : h.Ns mainGlobals mg) (hfa : mg "law" = some (.ref fa))
    {d__SIGNS : Addr} {i__SIGNS : Nat} {h__SIGNS_0 h__SIGNS_1 : Int} {t__SIGNS_0 u__SIGNS_0 t__SIGNS_1 u__SIGNS_1 : Tok}
    {od_show_pattern an_show_pattern : Option Addr} {sl_show_pattern : Array (Option Value)} {oc_show_pattern kV_show_pattern dc_show_pattern pm_show_pattern cd_show_pattern ct_show_pattern : Value}
    {od_law_deck an_law_deck : Option Addr} {sl_law_deck : Array (Option Value)} {oc_law_deck kV_law_deck dc_law_deck pm_law_deck cd_law_deck ct_law_deck : Value}
    {od_law_draw an_law_draw : Option Addr} {sl_law_draw : Array (Option Value)} {oc_law_draw kV_law_draw dc_law_draw pm_law_draw cd_law_draw ct_law_draw : Value}
    {od_law_great an_law_great : Option Addr} {sl_law_great : Array (Option Value)} {oc_law_great kV_law_great dc_law_great pm_law_great cd_law_great ct_law_great : Value}
    {od_law_pattern an_law_pattern : Option Addr} {sl_law_pattern : Array (Option Value)} {oc_law_pattern kV_law_pattern dc_law_pattern pm_law_pattern cd_law_pattern ct_law_pattern : Value}
    {od_law_pattern_text an_law_pattern_text : Option Addr} {sl_law_pattern_text : Array (Option Value)} {oc_law_pattern_text kV_law_pattern_text dc_law_pattern_text pm_law_pattern_text cd_law_pattern_text ct_law_pattern_text : Value}
    {od_law_copied an_law_copied : Option Addr} {sl_law_copied : Array (Option Value)} {oc_law_copied kV_law_copied dc_law_copied pm_law_copied cd_law_copied ct_law_copied : Value}
    {od_law_order an_law_order : Option Addr} {sl_law_order : Array (Option Value)} {oc_law_order kV_law_order dc_law_order pm_law_order cd_law_order ct_law_order : Value}
    {od_law an_law : Option Addr} {sl_law : Array (Option Value)} {oc_law kV_law dc_law pm_law cd_law ct_law : Value}
    (ga__SIGNS : PySem.W.nsIn K mainGlobals "_SIGNS" = some (some (.ref d__SIGNS)))
    (gl__SIGNS : K.lookup d__SIGNS = some ⟨.type "dict", none, .dict #[⟨h__SIGNS_0, .int 1 t__SIGNS_0, .str " < " u__SIGNS_0⟩, ⟨h__SIGNS_1, .int 2 t__SIGNS_1, .str " << " u__SIGNS_1⟩] i__SIGNS, #[]⟩)
    (sb__SIGNS_0 : h__SIGNS_0 = hashInt 1)
    (sb__SIGNS_1 : h__SIGNS_1 = hashInt 2)
    (a_show_pattern : PySem.W.nsIn K mainGlobals "show_pattern" = some (some (.ref f_show_pattern)))
    (l_show_pattern : K.lookup f_show_pattern = some ⟨oc_show_pattern, od_show_pattern, .func (PySem.W.fnOf "show_pattern" "show_pattern" (defArgs s_show_pattern) (defBody s_show_pattern) (defScope s_show_pattern) .none kV_show_pattern dc_show_pattern pm_show_pattern an_show_pattern cd_show_pattern ct_show_pattern), sl_show_pattern⟩)
    (c_show_pattern : PySem.W.codeIn K cd_show_pattern "show_pattern" = true)
    (k_show_pattern : PySem.W.keepIn K (.ref f_show_pattern) = true)
    (a_law_deck : PySem.W.nsIn K mainGlobals "_law_deck" = some (some (.ref f_law_deck)))
    (l_law_deck : K.lookup f_law_deck = some ⟨oc_law_deck, od_law_deck, .func (PySem.W.fnOf "_law_deck" "_law_deck" (defArgs s_law_deck) (defBody s_law_deck) (defScope s_law_deck) .none kV_law_deck dc_law_deck pm_law_deck an_law_deck cd_law_deck ct_law_deck), sl_law_deck⟩)
    (c_law_deck : PySem.W.codeIn K cd_law_deck "_law_deck" = true)
    (k_law_deck : PySem.W.keepIn K (.ref f_law_deck) = true)
    (a_law_draw : PySem.W.nsIn K mainGlobals "_law_draw" = some (some (.ref f_law_draw)))
    (l_law_draw : K.lookup f_law_draw = some ⟨oc_law_draw, od_law_draw, .func (PySem.W.fnOf "_law_draw" "_law_draw" (defArgs s_law_draw) (defBody s_law_draw) (defScope s_law_draw) .none kV_law_draw dc_law_draw pm_law_draw an_law_draw cd_law_draw ct_law_draw), sl_law_draw⟩)
    (c_law_draw : PySem.W.codeIn K cd_law_draw "_law_draw" = true)
    (k_law_draw : PySem.W.keepIn K (.ref f_law_draw) = true)
    (a_law_great : PySem.W.nsIn K mainGlobals "_law_great" = some (some (.ref f_law_great)))
    (l_law_great : K.lookup f_law_great = some ⟨oc_law_great, od_law_great, .func (PySem.W.fnOf "_law_great" "_law_great" (defArgs s_law_great) (defBody s_law_great) (defScope s_law_great) .none kV_law_great dc_law_great pm_law_great an_law_great cd_law_great ct_law_great), sl_law_great⟩)
    (c_law_great : PySem.W.codeIn K cd_law_great "_law_great" = true)
    (k_law_great : PySem.W.keepIn K (.ref f_law_great) = true)
    (a_law_pattern : PySem.W.nsIn K mainGlobals "_law_pattern" = some (some (.ref f_law_pattern)))
    (l_law_pattern : K.lookup f_law_pattern = some ⟨oc_law_pattern, od_law_pattern, .func (PySem.W.fnOf "_law_pattern" "_law_pattern" (defArgs s_law_pattern) (defBody s_law_pattern) (defScope s_law_pattern) .none kV_law_pattern dc_law_pattern pm_law_pattern an_law_pattern cd_law_pattern ct_law_pattern), sl_law_pattern⟩)
    (c_law_pattern : PySem.W.codeIn K cd_law_pattern "_law_pattern" = true)
    (k_law_pattern : PySem.W.keepIn K (.ref f_law_pattern) = true)
    (a_law_pattern_text : PySem.W.nsIn K mainGlobals "_law_pattern_text" = some (some (.ref f_law_pattern_text)))
    (l_law_pattern_text : K.lookup f_law_pattern_text = some ⟨oc_law_pattern_text, od_law_pattern_text, .func (PySem.W.fnOf "_law_pattern_text" "_law_pattern_text" (defArgs s_law_pattern_text) (defBody s_law_pattern_text) (defScope s_law_pattern_text) .none kV_law_pattern_text dc_law_pattern_text pm_law_pattern_text an_law_pattern_text cd_law_pattern_text ct_law_pattern_text), sl_law_pattern_text⟩)
    (c_law_pattern_text : PySem.W.codeIn K cd_law_pattern_text "_law_pattern_text" = true)
    (k_law_pattern_text : PySem.W.keepIn K (.ref f_law_pattern_text) = true)
    (a_law_copied : PySem.W.nsIn K mainGlobals "_law_copied" = some (some (.ref f_law_copied)))
    (l_law_copied : K.lookup f_law_copied = some ⟨oc_law_copied, od_law_copied, .func (PySem.W.fnOf "_law_copied" "_law_copied" (defArgs s_law_copied) (defBody s_law_copied) (defScope s_law_copied) .none kV_law_copied dc_law_copied pm_law_copied an_law_copied cd_law_copied ct_law_copied), sl_law_copied⟩)
    (c_law_copied : PySem.W.codeIn K cd_law_copied "_law_copied" = true)
    (k_law_copied : PySem.W.keepIn K (.ref f_law_copied) = true)
    (a_law_order : PySem.W.nsIn K mainGlobals "_law_order" = some (some (.ref f_law_order)))
    (l_law_order : K.lookup f_law_order = some ⟨oc_law_order, od_law_order, .func (PySem.W.fnOf "_law_order" "_law_order" (defArgs s_law_order) (defBody s_law_order) (defScope s_law_order) .none kV_law_order dc_law_order pm_law_order an_law_order cd_law_order ct_law_order), sl_law_order⟩)
    (c_law_order : PySem.W.codeIn K cd_law_order "_law_order" = true)
    (k_law_order : PySem.W.keepIn K (.ref f_law_order) = true)
    (a_law : PySem.W.nsIn K mainGlobals "law" = some (some (.ref f_law)))
    (l_law : K.lookup f_law = some ⟨oc_law, od_law, .func (PySem.W.fnOf "law" "law" (defArgs s_law) (defBody s_law) (defScope s_law) .none kV_law dc_law pm_law an_law cd_law ct_law), sl_law⟩)
    (c_law : PySem.W.codeIn K cd_law "law" = true)
    (k_law : PySem.W.keepIn K (.ref f_law) = true)
    (z_enumerate : PySem.W.nsIn K mainGlobals "enumerate" = some none)
    (z_int : PySem.W.nsIn K mainGlobals "int" = some none)
    (z_isinstance : PySem.W.nsIn K mainGlobals "isinstance" = some none)
    (z_len : PySem.W.nsIn K mainGlobals "len" = some none)
    (z_list : PySem.W.nsIn K mainGlobals "list" = some none)
    (z_range : PySem.W.nsIn K mainGlobals "range" = some none)
    (z_str : PySem.W.nsIn K mainGlobals "str" = some none)
    (z_zip : PySem.W.nsIn K mainGlobals "zip" = some none)
    : ∃ fd : FuncData, (∀ (s : Shared) (v : Value), BindsTo s fd ⟨[v], []⟩ [("script", v)]) ∧ ∀ base : Heap, K.In base → base.Ns mainGlobals mg → FnOk l.prog w K mg base CX0 4 fa fd ["script"] (spLaw K) := by
  have e := hfa.symm.trans (PySem.W.mg_of X G a_law)
  cases e
  have F_show_pattern := fun_mk (st := s_show_pattern) l_show_pattern c_show_pattern k_show_pattern
  have b_show_pattern := F_show_pattern.binds (ps := ["pattern"]) fun _ _ _ _ _ _ us hl => match us, hl with | [_], _ => rfl
  have F_law_deck := fun_mk (st := s_law_deck) l_law_deck c_law_deck k_law_deck
  have b_law_deck := F_law_deck.binds (ps := ["script"]) fun _ _ _ _ _ _ us hl => match us, hl with | [_], _ => rfl
  have F_law_draw := fun_mk (st := s_law_draw) l_law_draw c_law_draw k_law_draw
  have b_law_draw := F_law_draw.binds (ps := ["deck", "many"]) fun _ _ _ _ _ _ us hl => match us, hl with | [_, _], _ => rfl
  have F_law_great := fun_mk (st := s_law_great) l_law_great c_law_great k_law_great
  have b_law_great := F_law_great.binds (ps := ["deck", "many"]) fun _ _ _ _ _ _ us hl => match us, hl with | [_, _], _ => rfl
  have F_law_pattern := fun_mk (st := s_law_pattern) l_law_pattern c_law_pattern k_law_pattern
  have b_law_pattern := F_law_pattern.binds (ps := ["deck"]) fun _ _ _ _ _ _ us hl => match us, hl with | [_], _ => rfl
  have F_law_pattern_text := fun_mk (st := s_law_pattern_text) l_law_pattern_text c_law_pattern_text k_law_pattern_text
  have b_law_pattern_text := F_law_pattern_text.binds (ps := ["form"]) fun _ _ _ _ _ _ us hl => match us, hl with | [_], _ => rfl
  have F_law_copied := fun_mk (st := s_law_copied) l_law_copied c_law_copied k_law_copied
  have b_law_copied := F_law_copied.binds (ps := ["form"]) fun _ _ _ _ _ _ us hl => match us, hl with | [_], _ => rfl
  have F_law_order := fun_mk (st := s_law_order) l_law_order c_law_order k_law_order
  have b_law_order := F_law_order.binds (ps := ["deck", "many"]) fun _ _ _ _ _ _ us hl => match us, hl with | [_, _], _ => rfl
  have F_law := fun_mk (st := s_law) l_law c_law k_law
  have b_law := F_law.binds (ps := ["script"]) fun _ _ _ _ _ _ us hl => match us, hl with | [_], _ => rfl
  let T : Tx K w mg := {  d__SIGNS := d__SIGNS, g__SIGNS := PySem.W.mg_of X G ga__SIGNS, id__SIGNS := ⟨_, _, gl__SIGNS, ⟨⟨⟨_, rfl⟩, sb__SIGNS_0, _, rfl⟩, ⟨⟨⟨_, rfl⟩, sb__SIGNS_1, _, rfl⟩, trivial⟩⟩⟩, f_show_pattern := f_show_pattern, d_show_pattern := _, F_show_pattern := F_show_pattern, b_show_pattern := b_show_pattern, g_show_pattern := PySem.W.mg_of X G a_show_pattern, f_law_deck := f_law_deck, d_law_deck := _, F_law_deck := F_law_deck, b_law_deck := b_law_deck, g_law_deck := PySem.W.mg_of X G a_law_deck, f_law_draw := f_law_draw, d_law_draw := _, F_law_draw := F_law_draw, b_law_draw := b_law_draw, g_law_draw := PySem.W.mg_of X G a_law_draw, f_law_great := f_law_great, d_law_great := _, F_law_great := F_law_great, b_law_great := b_law_great, g_law_great := PySem.W.mg_of X G a_law_great, f_law_pattern := f_law_pattern, d_law_pattern := _, F_law_pattern := F_law_pattern, b_law_pattern := b_law_pattern, g_law_pattern := PySem.W.mg_of X G a_law_pattern, f_law_pattern_text := f_law_pattern_text, d_law_pattern_text := _, F_law_pattern_text := F_law_pattern_text, b_law_pattern_text := b_law_pattern_text, g_law_pattern_text := PySem.W.mg_of X G a_law_pattern_text, f_law_copied := f_law_copied, d_law_copied := _, F_law_copied := F_law_copied, b_law_copied := b_law_copied, g_law_copied := PySem.W.mg_of X G a_law_copied, f_law_order := f_law_order, d_law_order := _, F_law_order := F_law_order, b_law_order := b_law_order, g_law_order := PySem.W.mg_of X G a_law_order, f_law := fa, d_law := _, F_law := F_law, b_law := b_law, g_law := PySem.W.mg_of X G a_law, m_enumerate := PySem.W.mg_none_of X G z_enumerate, m_int := PySem.W.mg_none_of X G z_int, m_isinstance := PySem.W.mg_none_of X G z_isinstance, m_len := PySem.W.mg_none_of X G z_len, m_list := PySem.W.mg_none_of X G z_list, m_range := PySem.W.mg_none_of X G z_range, m_str := PySem.W.mg_none_of X G z_str, m_zip := PySem.W.mg_none_of X G z_zip }
  exact ⟨PySem.W.fnOf "law" "law" (defArgs s_law) (defBody s_law) (defScope s_law) .none kV_law dc_law pm_law an_law cd_law ct_law, fun s v => .of_eq rfl, fun base _ _ => ok_law T⟩
end K51
open PySem PySem.W PyProof.Rows
set_option maxHeartbeats 0 in
theorem PySem.Challenge.cw_plandays_k51_texts_of_patterns_holds : PySem.Challenge.rw_plandays_k51_texts_of_patterns.Holds := by
  w_on; o_law; k_head; (case hw => w_witness2)
  k_fill
  refine L2.walk_of (l := PySem.Challenge.rw_plandays_k51_texts_of_patterns) (n := 63) (k := 4) (x := "script") (CX := fun _ => L2.CX0) (sp := fun w => K51.spLaw _) rfl (by decide) rfl ⟨rfl, by decide, by decide⟩ (fun w h Y => PySem.W.kIn_of Y) ?F (fun _ _ a ns hl _ hS => ⟨a, ns, rfl, hS, hl, fun _ => rfl⟩) (fun _ _ _ _ _ h => h)
  case F =>
    intro w mg fa h KX G hmg
    refine' K51.all_mk KX G hmg ?ga__SIGNS ?gl__SIGNS ?sb__SIGNS_0 ?sb__SIGNS_1 ?a_show_pattern ?l_show_pattern ?c_show_pattern ?k_show_pattern ?a_law_deck ?l_law_deck ?c_law_deck ?k_law_deck ?a_law_draw ?l_law_draw ?c_law_draw ?k_law_draw ?a_law_great ?l_law_great ?c_law_great ?k_law_great ?a_law_pattern ?l_law_pattern ?c_law_pattern ?k_law_pattern ?a_law_pattern_text ?l_law_pattern_text ?c_law_pattern_text ?k_law_pattern_text ?a_law_copied ?l_law_copied ?c_law_copied ?k_law_copied ?a_law_order ?l_law_order ?c_law_order ?k_law_order ?a_law ?l_law ?c_law ?k_law ?z_enumerate ?z_int ?z_isinstance ?z_len ?z_list ?z_range ?z_str ?z_zip
    (case ga__SIGNS => k_is)
    (case gl__SIGNS => k_is)
    (case sb__SIGNS_0 => first | rfl | k_is)
    (case sb__SIGNS_1 => first | rfl | k_is)
    (case a_show_pattern => k_is)
    (case l_show_pattern => k_is)
    (case c_show_pattern => k_is)
    (case k_show_pattern => k_is)
    (case a_law_deck => k_is)
    (case l_law_deck => k_is)
    (case c_law_deck => k_is)
    (case k_law_deck => k_is)
    (case a_law_draw => k_is)
    (case l_law_draw => k_is)
    (case c_law_draw => k_is)
    (case k_law_draw => k_is)
    (case a_law_great => k_is)
    (case l_law_great => k_is)
    (case c_law_great => k_is)
    (case k_law_great => k_is)
    (case a_law_pattern => k_is)
    (case l_law_pattern => k_is)
    (case c_law_pattern => k_is)
    (case k_law_pattern => k_is)
    (case a_law_pattern_text => k_is)
    (case l_law_pattern_text => k_is)
    (case c_law_pattern_text => k_is)
    (case k_law_pattern_text => k_is)
    (case a_law_copied => k_is)
    (case l_law_copied => k_is)
    (case c_law_copied => k_is)
    (case k_law_copied => k_is)
    (case a_law_order => k_is)
    (case l_law_order => k_is)
    (case c_law_order => k_is)
    (case k_law_order => k_is)
    (case a_law => k_is)
    (case l_law => k_is)
    (case c_law => k_is)
    (case k_law => k_is)
    (case z_enumerate => k_is)
    (case z_int => k_is)
    (case z_isinstance => k_is)
    (case z_len => k_is)
    (case z_list => k_is)
    (case z_range => k_is)
    (case z_str => k_is)
    (case z_zip => k_is)

