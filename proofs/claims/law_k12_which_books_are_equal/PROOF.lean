import PyProof.Rows.All
import Wide.All
import OpenK.AllK
import Wide.FinOn
import HandS.ForMost
import HandS.Wide
import HandS.IsInst
import HandS.Codes
import HandS.Conv
import HandS.Style
import HandS.More
import HandS.Property
import HandS.Defaults
import HandS.MakeKwOnly
import KE.KDictZip
import HandS.Dict
import Flt.Len
import HandS.OwnEq
import HandS.SlotsOwn
import HandS.Star
import PySem.Challenge.RW_plandays_k12_which_books_are_equal
set_option Elab.async false
set_option linter.all false
set_option maxRecDepth 100000
namespace K12
open PySem PySem.Spec PyProof.Rows L2
/-! ### rules of my own over the layer's -/
theorem pe_bmK {X : Cx} {K : PySem.W.Frag} (hK : X.K = K) {o e : Expr} {es : List Expr} {to : TE} {t : TA} {name : Str} {apos cpos : Pos} {T id : String} {r : V → List V → Hp → VK → Prop}
    (pa : PlainAttrs T) (slot : Slot T name id) (ty : typeOf (.builtin id) = pure (.type "method_descriptor")) (hm : MtR X id r) (ho : PE X o to) (ha : PA X (e :: es) t)
    (h1 : attributeBase o name X.env (eval o X.env) = eval o X.env := by rfl)
    (h2 : ((backTo cpos (starEach (e :: es) X.env)).all (fun x => !x.1) && (backToKw cpos (keywordEach [] X.env)).all (fun x => x.1.isSome) && decide ((e :: es).length + ([] : List Keyword).length + (if ([] : List Keyword).isEmpty then 0 else 1) < 30)) = true := by rfl)
    (h3 : (apos.endLine == cpos.line) = true := by rfl) (h4 : starEach (e :: es) X.env = (false, eval e X.env) :: starEach es X.env := by rfl) (h5 : (backTo cpos (starEach es X.env)).any (·.1) = false := by rfl) :
    PE X (.Call (.Attribute o name apos) (e :: es) [] cpos) (tBM K T r to t) := by
  subst hK
  exact pe_bm pa slot ty hm ho ha h1 h2 h3 h4 h5
/-- len(x), x of an own class with its own __len__ -/
theorem call_lenOwn {X : Cx} {k : Nat} {C f : Addr} {fd : FuncData} {ps : List Str} {sp : Sp} (c : Cls X.K C) (m : Meth X.K C "__len__" f) (F : FnOk X.prog X.w X.K X.mg X.base CX0 k f fd ps sp) (hr : Room (k + 1) X.A) (hb : Binds X.K fd ps []) :
    CallR X (.builtin "len") (fun xs H Q => ∃ a dx fs, xs = [.ref a] ∧ H a = some (.ins C dx fs) ∧ sp [.ref a] H (fun v H' => ∃ n : Int, v = .int n ∧ 0 ≤ n ∧ n < 2 ^ 63 ∧ Q (.int n) H') E0) := by
  intro pins s σ H xs us Q I r h
  obtain ⟨a, dx, fs, rfl, ea, h⟩ := h
  obtain ⟨u, rfl, ru⟩ := vals1 r
  obtain rfl : u = Value.ref a := ru
  obtain ⟨mA, O, _⟩ := ins_get I.hok ea
  obtain ⟨od, J, _⟩ := O.look
  have hl : ([Value.ref a] ++ ([] : List Value)).length = ps.length := by
    rw [← F.len _ _ _ _ h]
    rfl
  refine Calls.call_function_entry kind_len plain_len entry_len (args_len1 _) ?_
  unfold Builtin.«len»
  refine wpAny_bind (m := oneArg "len" _) (wpAny_pure ?_)
  refine wpAny_bind (m := callSpecial? (.ref a) (Str.ofString "__len__")) (PySem.W.special_fn I.kIn J m.at_ (beq_iff_eq.mp m.fn) ?_)
  refine wpAny_call (codeAny_mono (F.run X.A.in1 X.stack s H ⟨[.ref a], []⟩ [.ref a] [.ref a] _ E0 hr.in1 I.env0.in1 (hb s [.ref a] I.kIn hl) (.cons rfl .nil) h) fun r s' hq => ?_)
  cases r with
  | error er => exact False.elim hq
  | ok fl =>
    cases fl with
    | ret u =>
      obtain ⟨v, H', I3, rv, n, ev, n0, n1, q3⟩ := I.after hq
      subst ev
      obtain ⟨t, rfl⟩ := rv
      refine wpAny_bind (wpAny_holding (wpAny_pure ?_))
      refine wpAny_bind (wpAny_letGo ?_)
      show wpAny _ _ (if n < 0 then _ else _) _ _ _
      rw [if_neg (by omega)]
      show wpAny _ _ (if n ≥ 2 ^ 63 then _ else _) _ _ _
      rw [if_neg (by omega)]
      exact wpAny_bind (wpAny_mkInt (wpAny_pure ⟨_, rfl, .int n, H', I3.tok _, ⟨_, rfl⟩, q3⟩))
    | next => exact False.elim hq
    | brk => exact False.elim hq
    | cont => exact False.elim hq
/-- an item of a dict that the module holds -/
theorem ix_kd {X : Cx} {d : Addr} {es : Array DictEntry} {n : Nat} (D : KDict X.K X.w d es n) : IxR X (fun x y H Q => ∃ (z : Str) (u0 : Value) (v0 : V), x = .ref d ∧ y = .str z ∧ PySem.W.nsIn X.K d z = some (some u0) ∧ RelV v0 u0 ∧ Q v0 H) := by
  intro value slice pins s σ H x y v u Q I rx ry h hs
  have hx : x = .ref d := by
    obtain ⟨z, u0, v0, hx, _⟩ := h
    exact hx
  have h2 := op_item_kd D pins s σ H x y v u Q I rx ry h
  subst hx
  obtain rfl : v = Value.ref d := rx
  exact tail_any (kd_type D I) PySem.slot_dict_getitem.lookup h2 hs
/-- the readings of list(..) and len(..), named -/
def rList (K : PySem.W.Frag) : List V → Hp → VK → Prop := fun xs H Q => ∃ p ys, xs = [.ref p] ∧ (SqL K H p ys ∨ SqT K H p ys) ∧ ∀ l, H l = none → Q (.ref l) (upd H l (.lst ys))
def rLen (K : PySem.W.Frag) : List V → Hp → VK → Prop := fun xs H Q => ∃ p ys, xs = [.ref p] ∧ (SqL K H p ys ∨ SqT K H p ys) ∧ Q (.int ys.length) H
/-- dict(zip(a, b)) -/
def tDictZip (K : PySem.W.Frag) (ta : TA) : TE := fun σ H Q => ta σ H fun vs H1 => ∃ (a b : Addr) (ks : List Key) (ys : List V), vs = [.ref a, .ref b] ∧ SqL K H1 a (ks.map kV) ∧ SqL K H1 b ys ∧ ks.length = ys.length ∧ ∀ d, H1 d = none → Q (.ref d) (upd H1 d (.dK (mergeK [] (ks.zip ys))))
theorem kv_zip : ∀ {ks : List Key} {ys : List V} {us : List Value}, Vals ys us → KV (ks.zip ys) (ks.zip us)
  | [], _, _, _ => .nil
  | _ :: _, _, _, .nil => .nil
  | _ :: _, _, _, .cons r t => .cons ⟨rfl, r⟩ (kv_zip t)
theorem pe_dictZip {X : Cx} {e1 e2 : Expr} {ta : TA} {p p2 pos pos2 : Pos} (hc : X.calm = true) (hg : Gl X "dict") (hm : X.mg "dict" = none) (hg2 : Gl X "zip") (hm2 : X.mg "zip" = none) (ha : PA X [e1, e2] ta)
    (na : starEach [.Call (.Name "zip" p2) [e1, e2] [] pos2] X.env = (false, eval (.Call (.Name "zip" p2) [e1, e2] [] pos2) X.env) :: starEach [] X.env := by rfl)
    (hs : starEach [e1, e2] X.env = (false, eval e1 X.env) :: starEach [e2] X.env := by rfl) (hpl : (backTo pos2 (starEach [e2] X.env)).any (·.1) = false := by rfl) :
    PE X (.Call (.Name "dict" p) [.Call (.Name "zip" p2) [e1, e2] [] pos2] [] pos) (tDictZip X.K ta) := by
  refine ⟨fun pins s σ H Q I h => ?_⟩
  refine Call_ (ld_blt I hg hm PyProof.Rows.boot_dict (PyProof.Rows.callWith_type1 (args_cons (Call_ (ld_blt I hg2 hm2 PyProof.Rows.boot_zip (PyProof.Rows.callWith_type1 (thn (ha.run pos2 pins s σ H _ I h) fun us s1 ⟨vs, H1, I1, r1, q1⟩ => ?_) hs hpl))) na) na))
  obtain ⟨a, b, ks, ys, ex, hqx, hqy, hlen, q⟩ := q1
  subst ex
  obtain ⟨u1, u2, rfl, ra, rb⟩ := vals2 r1
  obtain rfl : u1 = Value.ref a := ra
  obtain rfl : u2 = Value.ref b := rb
  obtain ⟨its, rv, p1, z1⟩ := I1.list hqx
  obtain ⟨its2, rv2, p2, _⟩ := I1.list hqy
  have la : a < s1.heap.objs.size := p1.lt
  have lb : b < s1.heap.objs.size := p2.lt
  have n1 := rv.length
  have n2 := rv2.length
  rw [List.length_map] at n1 z1
  refine call_zip_2 p1.isList p2.isList fun h' hz hTI hTO h1 h2 hsz hk => args_nil ?_
  refine PySem.call_dict_pairs (knd := mixKind X.prog X.w) (kvs := ks.zip its2) (PairArg.zip _ _ _ _ _ _ _ (PySem.W.ktu_apart s1.heap.objs.size a b la lb) its.toArray its2.toArray) (I1.ok.hd hc)
    ⟨hz, hTI, ⟨_, _, hTO⟩, h1, h2, p1.isList.at fun o e => hk _ _ e, p2.isList.at fun o e => hk _ _ e⟩ ⟨?_, fun i key v hr => ?_⟩ ?_ fun h'' tk hd' hk' => ?_
  · rw [List.length_zip, List.size_toArray, List.size_toArray]
    omega
  · obtain ⟨e1, e2⟩ := hr
    have e1' : its[i]? = some key := by simpa using e1
    have e2' : its2[i]? = some v := by simpa using e2
    have hi : i < ks.length := by
      have := (List.getElem?_eq_some_iff.mp e1').1
      omega
    obtain ⟨w', hw, rw'⟩ := rv.get (i := i) (x := kV ks[i]) (by rw [List.getElem?_map, List.getElem?_eq_getElem hi]; rfl)
    rw [e1'] at hw
    obtain rfl := Option.some.inj hw
    refine ⟨ks[i], ?_, kV_is rw'⟩
    rw [List.getElem?_zip_eq_some]
    exact ⟨List.getElem?_eq_getElem hi, e2'⟩
  · rw [List.size_toArray]
    have : min its.length its2.toArray.size ≤ its.length := Nat.min_le_left _ _
    omega
  · have es : h'.objs.size = s1.heap.objs.size + 5 := hsz
    have hm' : (h'.objs.size == sysModules) = false := beq_eq_false_iff_ne.mpr (Nat.ne_of_gt (Nat.lt_of_lt_of_le I1.big (by rw [es]; exact Nat.le_add_right _ _)))
    have hl2 : (mergeK [] (ks.zip ys)).length ≤ sizeLine := by
      refine Nat.le_trans (length_mergeK _ []) ?_
      rw [List.length_nil, Nat.zero_add, List.length_zip]
      omega
    have keep : ∀ c o, s1.heap.get? c = some o → h''.get? c = some o := fun c o e => by
      refine hk' c o ?_ (hk c o e)
      have := Heap.lt_size e
      simp only [List.mem_cons, List.not_mem_nil, or_false, not_or]
      refine ⟨fun z => ?_, fun z => ?_, fun z => ?_, fun z => ?_⟩ <;> rw [z] at this
      · exact absurd this (Nat.not_lt.mpr (Nat.le_add_right _ _))
      · exact absurd this (Nat.not_lt.mpr (Nat.le_add_right _ _))
      · exact absurd this (Nat.lt_irrefl _)
      · exact absurd this (Nat.not_lt.mpr (Nat.le_add_right _ _))
    exact ⟨.ref h'.objs.size, upd H1 h'.objs.size (.dK (mergeK [] (ks.zip ys))), I1.laid (t' := tk) keep (by omega) (show ObjOk X.prog X.w _ _ _ (.dK (mergeK [] (ks.zip ys))) from ⟨hl2, hm', merged [] (ks.zip its2), KV.merge (kv_zip rv2) .nil, hd'⟩), rfl, q _ (I1.hok.fresh (by omega))⟩
/-! ### a dict of the module: d.get(k, x) -/
def tGetKD (K : PySem.W.Frag) (d : Addr) (td ty tx : TE) : TE := fun σ H Q => td σ H fun x H1 => x = .ref d ∧ ty σ H1 fun y H2 => tx σ H2 fun z H3 => ∃ (k : Str) (r : Option Value) (v0 : V), y = .str k ∧ PySem.W.nsIn K d k = some r ∧ (r = none → v0 = z) ∧ (∀ u0, r = some u0 → RelV v0 u0) ∧ Q v0 H3
theorem pe_getKD {X : Cx} {o e f : Expr} {apos cpos : Pos} {td ty tx : TE} {d : Addr} {es : Array DictEntry} {n : Nat} (D : KDict X.K X.w d es n) (ho : PE X o td) (he : PE X e ty) (hf : PE X f tx) (m : M2 X o "get" apos e f cpos) : PE X (.Call (.Attribute o "get" apos) [e, f] [] cpos) (tGetKD X.K d td ty tx) := by
  refine ⟨fun pins s σ H Q I h => ?_⟩
  refine wpAny_Call_method m.base m.few m.line PySem.F.plainAttrs_dict PySem.F.slot_dict_get PySem.F.type_dict_get (thn (ho.run pins s σ H _ I h) fun u s1 ⟨x, H1, I1, rx, ex, q1⟩ => ?_)
  subst ex
  obtain rfl : u = Value.ref d := rx
  refine ⟨kd_type D I1, fun b q => ?_, ?_⟩
  · cases q
    exact ⟨_, I1.kIn _ _ D.at_, rfl⟩
  rw [m.trees]
  refine Calls.callWith_builtin rfl (Calls.evalArgs_plain (Calls.spliced_cons (thn (he.run pins s1 σ H1 _ I1 q1) fun iv s2 ⟨y, H2, I2, ry, q2⟩ =>
    Calls.spliced_cons (thn (hf.run pins s2 σ H2 _ I2 q2) fun fv s3 ⟨z, H3, I3, rz, k, r, v0, ey, hn, h0, h1, q3⟩ => Calls.spliced_nil ?_))))
  subst ey
  obtain ⟨t, rfl⟩ := ry
  have M := PySem.W.mapOf_K (prog := X.prog) (w := X.w) I3.kIn D.at_ D.lit
  refine call_meetsIn PySem.F.slot_dict_get M.typeIs PySem.F.entry_dict_get (PySem.F.args_dict_get_3 _ _ _) (meets_dict_get_default (strKind X.prog X.w) d (PySem.strKind_is X.prog X.w k t) D.low fv) ⟨_, M, ?_⟩
  have e := PySem.W.find_K D.at_ hn
  rw [e]
  refine ⟨v0, H3, I3.tok _, ?_, q3⟩
  cases r with
  | none => rw [h0 rfl]; exact rz
  | some u0 => exact h1 u0 rfl
/-! ### == of two instances of a class with its own __eq__ -/
def rEqOwn (C : Addr) (sp : Sp) (E : XK) : R2 := fun x y H Q => ∃ a b dx dy fs gs, x = .ref a ∧ y = .ref b ∧ H a = some (.ins C dx fs) ∧ H b = some (.ins C dy gs) ∧ sp [.ref a, .ref b] H Q E
theorem op_eqOwn {X : Cx} {k : Nat} {C f : Addr} {fd : FuncData} {ps : List Str} {sp : Sp} (m : Meth X.K C "__eq__" f) (F : FnOk X.prog X.w X.K X.mg X.base CX0 k f fd ps sp) (hr : Room k X.A) (hb : Binds X.K fd ps []) : OpR X (compareOp .Eq) (rEqOwn C sp E0) := by
  intro pins s σ H x y v u Q I rx ry h
  obtain ⟨a, b, dx, dy, fs, gs, rfl, rfl, ha, hb', h⟩ := h
  obtain rfl : v = Value.ref a := rx
  obtain rfl : u = Value.ref b := ry
  obtain ⟨mA, J, _⟩ := ins_get I.hok ha
  obtain ⟨mB, J', _⟩ := ins_get I.hok hb'
  obtain ⟨od, J, _⟩ := J.look
  obtain ⟨od', J', _⟩ := J'.look
  obtain ⟨m', hF⟩ := I.fr
  have hl : ([Value.ref a, Value.ref b] ++ ([] : List Value)).length = ps.length := by
    rw [← F.len _ _ _ _ h]
    rfl
  show wpAny (model X.prog X.w) X.A (richCompare .Eq (.ref a) (.ref b)) (EP X pins σ Q) X.xe s
  refine PySem.W.cmp_K (op := .Eq) (tb := .ref C) hr.units0 hF I.ok.mod.kin J J'.type (by simp [PySem.W.notFirst]) m.at_ m.fn ?_
  refine wpAny_call (codeAny_mono (F.run X.A X.stack s H ⟨[.ref a, .ref b], []⟩ [.ref a, .ref b] [.ref a, .ref b] _ E0 hr I.env0 (hb s [.ref a, .ref b] I.kIn hl) (.cons rfl (.cons rfl .nil)) h) fun r s' hq => ?_)
  cases r with
  | error er => exact False.elim hq
  | ok fl =>
    cases fl with
    | ret w =>
      obtain ⟨z', H', I', rz, qz⟩ := I.after hq
      exact SlX.cmpback rz ⟨z', H', I', rz, qz⟩
    | next => exact False.elim hq
    | brk => exact False.elim hq
    | cont => exact False.elim hq
/-! ### x & y of two instances of a class with its own __and__ -/
theorem op_andOwn {X : Cx} {k : Nat} {C f : Addr} {fd : FuncData} {ps : List Str} {sp : Sp} (hc : PySem.W.selfFirst X.K C = true) (m : Meth X.K C "__and__" f) (F : FnOk X.prog X.w X.K X.mg X.base CX0 k f fd ps sp) (hr : Room k X.A) (hb : Binds X.K fd ps []) : OpR X (binaryOp .BitAnd) (rEqOwn C sp E0) := by
  intro pins s σ H x y v u Q I rx ry h
  obtain ⟨a, b, dx, dy, fs, gs, rfl, rfl, ha, hb', h⟩ := h
  obtain rfl : v = Value.ref a := rx
  obtain rfl : u = Value.ref b := ry
  obtain ⟨mA, J, _⟩ := ins_get I.hok ha
  obtain ⟨mB, J', _⟩ := ins_get I.hok hb'
  obtain ⟨od, J, _⟩ := J.look
  obtain ⟨od', J', _⟩ := J'.look
  obtain ⟨m', hF⟩ := I.fr
  have hl : ([Value.ref a, Value.ref b] ++ ([] : List Value)).length = ps.length := by
    rw [← F.len _ _ _ _ h]
    rfl
  refine PySem.W.binop_K (op := .BitAnd) hF I.ok.mod.kin J J'.type hc m.at_ m.fn ?_
  refine wpAny_call (codeAny_mono (F.run X.A X.stack s H ⟨[.ref a, .ref b], []⟩ [.ref a, .ref b] [.ref a, .ref b] _ E0 hr I.env0 (hb s [.ref a, .ref b] I.kIn hl) (.cons rfl (.cons rfl .nil)) h) fun r s' hq => ?_)
  cases r with
  | error er => exact False.elim hq
  | ok fl =>
    cases fl with
    | ret w =>
      obtain ⟨z', H', I', rz, qz⟩ := I.after hq
      exact SlX.cmpback rz ⟨z', H', I', rz, qz⟩
    | next => exact False.elim hq
    | brk => exact False.elim hq
    | cont => exact False.elim hq
theorem pe_fldK {X : Cx} {K : PySem.W.Frag} (hK : X.K = K) {e : Expr} {f : Str} {pos : Pos} {ta : TE} (he : PE X e ta) (hb : attributeBase e f X.env (eval e X.env) = eval e X.env) : PE X (.Attribute e f pos) (tFld K ta f) := by
  subst hK
  exact pe_fld he hb
/-! ### range(n) as a value, and walked -/
theorem cr_range1 {X : Cx} : CallR X (.type "range") (fun vs H Q => ∃ j, vs = [V.int j] ∧ ∀ p, H p = none → Q (.ref p) (upd H p (.rng 0 j))) := by
  intro pins s σ H vs us Q I r h
  obtain ⟨j, rfl, q⟩ := h
  obtain ⟨u1, rfl, rj⟩ := vals1 r
  obtain ⟨t, rfl⟩ := rj
  refine call_range_1 ⟨.ref s.heap.objs.size, upd H s.heap.objs.size (.rng 0 j), I.laid (t' := s.toks + 1 + 1) (fun b o e => Heap.get?_push_of_some _ e) (Nat.le_refl _) ?_, rfl, q _ (I.hok.fresh (Nat.le_refl _))⟩
  exact ⟨_, _, _, Heap.get?_push_size _ rfl⟩
def iRngV (tl : TE) : TI := fun σ H R => tl σ H fun x H1 => ∃ (a : Addr) (lo hi : Int), x = .ref a ∧ H1 a = some (.rng lo hi) ∧ (-(2 ^ 62) ≤ lo ∧ lo < 2 ^ 62 ∧ -(2 ^ 62) ≤ hi ∧ hi < 2 ^ 62) ∧ R (Itr lo (hi - lo).toNat) H1
theorem pi_rngV {X : Cx} {tg : Expr} {l : Expr} {tl : TE} (hl : PE X l tl) : PI X tg l (iRngV tl) := by
  refine ⟨fun pins s σ H R I h => ?_⟩
  refine thn (hl.run pins s σ H _ I h) fun v s1 ⟨x, H1, I1, r1, q1⟩ => ?_
  obtain ⟨a, lo, hi, e, hr, ⟨h1, h2, h3, h4⟩, q⟩ := q1
  subst e
  cases r1
  obtain ⟨t, u, w, ho⟩ := I1.hok a _ hr
  refine wpAny_pyIter_range (show IsRange s1.heap a lo hi 1 t u w from ho) (small_one h1 h2 h3 h4) ?_
  refine ⟨s1.heap.objs.size, [s1.heap.objs.size], _, _, H1, rfl, I1.kept (t' := s1.toks) fun b o e => Heap.get?_push_of_some _ e, turn_range _ lo (hi - lo).toNat, ?_, fun b hb => ?_, q⟩
  · have e1 : lo + ((0 : Nat) : Int) * 1 = lo := by simp
    have e2 : (((hi - lo).toNat : Nat) : Int) - ((0 : Nat) : Int) = Builtin.Range.rangeSize lo hi 1 := by rw [rangeSize_one]; split <;> omega
    show IsRangeIter _ _ (lo + ((0 : Nat) : Int) * 1) ((((hi - lo).toNat : Nat) : Int) - ((0 : Nat) : Int)) 1
    rw [e1, e2]
    exact Heap.get?_push_size _ rfl
  · have e : b = s1.heap.objs.size := by simpa using hb
    subst e
    exact I1.fpOk (Nat.le_refl _) (I1.hok.fresh (Nat.le_refl _))
/-- a tuple as a comprehension's target -/
theorem pg_tupK {X : Cx} {K : PySem.W.Frag} (hK : X.K = K) {es : List Expr} {k : Nat} {pos : Pos} {t : TGs} {n : Nat} (hc : X.calm = true) (h : PGs X es t)
    (hn : (assignEach es X.env).length = n := by rfl) (hst : (assignEach es X.env).findIdx? (·.1) = none := by rfl) : PG X (.Tuple es k pos) (gTup K n t) := by
  subst hK
  exact pg_tup hc h hn hst
/-! ### == and != of an instance of a class with its own __eq__ and a value of another kind, in both orders -/
section
open PySem.W
theorem int_eq_ins (b : Int) (u : Tok) (l C dx : Addr) :
    Meets (Builtin.«int.__eq__» ⟨[.int b u, .ref l], []⟩) (fun _ R s => s.heap.get? l = some (instObj C dx) ∧ R (.ok (.ret .notImplemented)) s) :=
  .of_wp fun prog w A R s h => by obtain ⟨hp, g, d, tk, os⟩ := s; obtain ⟨hl, h⟩ := h; wp_walk using wpAny_loadPart' hl, wpAny_load hl; exact ⟨_, rfl, h⟩
theorem int_ne_ins (b : Int) (u : Tok) (l C dx : Addr) :
    Meets (Builtin.«int.__ne__» ⟨[.int b u, .ref l], []⟩) (fun _ R s => s.heap.get? l = some (instObj C dx) ∧ R (.ok (.ret .notImplemented)) s) :=
  .of_wp fun prog w A R s h => by obtain ⟨hp, g, d, tk, os⟩ := s; obtain ⟨hl, h⟩ := h; wp_walk using wpAny_loadPart' hl, wpAny_load hl; exact ⟨_, rfl, h⟩
theorem str_eq_ins (b : Str) (u : Tok) (l C dx : Addr) :
    Meets (Builtin.«str.__eq__» ⟨[.str b u, .ref l], []⟩) (fun _ R s => s.heap.get? l = some (instObj C dx) ∧ R (.ok (.ret .notImplemented)) s) :=
  .of_wp fun prog w A R s h => by obtain ⟨hp, g, d, tk, os⟩ := s; obtain ⟨hl, h⟩ := h; wp_walk using wpAny_loadPart' hl, wpAny_load hl; exact ⟨_, rfl, h⟩
theorem str_ne_ins (b : Str) (u : Tok) (l C dx : Addr) :
    Meets (Builtin.«str.__ne__» ⟨[.str b u, .ref l], []⟩) (fun _ R s => s.heap.get? l = some (instObj C dx) ∧ R (.ok (.ret .notImplemented)) s) :=
  .of_wp fun prog w A R s h => by obtain ⟨hp, g, d, tk, os⟩ := s; obtain ⟨hl, h⟩ := h; wp_walk using wpAny_loadPart' hl, wpAny_load hl; exact ⟨_, rfl, h⟩
theorem none_eq_ins (l : Addr) : Gives (Builtin.«NoneType.__eq__» ⟨[.none, .ref l], []⟩) (.val (Value.notImplemented)) :=
  .of_wp fun M A E s Q h => by obtain ⟨hp, g, d, tk, os⟩ := s; wp_walk; exact ⟨_, rfl, h⟩
theorem none_ne_ins (l : Addr) : Gives (Builtin.«NoneType.__ne__» ⟨[.none, .ref l], []⟩) (.val (Value.notImplemented)) :=
  .of_wp fun M A E s Q h => by obtain ⟨hp, g, d, tk, os⟩ := s; wp_walk; exact ⟨_, rfl, h⟩
def NotOf (x : Addr) (n : String) (s : Shared) : Prop := ∀ (M : Model) (A : Around) (Q : Bool → Shared → Prop) (E : Value → Shared → Prop), Q false s → wpAny M A (isInstance (.ref x) (.type n)) Q E s
theorem list_eq_ins (l x : Addr) : Meets (Builtin.«list.__eq__» ⟨[.ref l, .ref x], []⟩) (fun _ R s => NotOf x "list" s ∧ R (.ok (.ret .notImplemented)) s) :=
  .of_wp fun prog w A R s h => by obtain ⟨hp, g, d, tk, os⟩ := s; obtain ⟨f1, h⟩ := h; unfold NotOf at f1; wp_walk using f1; exact ⟨_, rfl, h⟩
theorem list_ne_ins (l x : Addr) : Meets (Builtin.«list.__ne__» ⟨[.ref l, .ref x], []⟩) (fun _ R s => NotOf x "list" s ∧ R (.ok (.ret .notImplemented)) s) :=
  .of_wp fun prog w A R s h => by obtain ⟨hp, g, d, tk, os⟩ := s; obtain ⟨f1, h⟩ := h; unfold NotOf at f1; wp_walk using f1; exact ⟨_, rfl, h⟩
theorem tuple_eq_ins (l x : Addr) : Meets (Builtin.«tuple.__eq__» ⟨[.ref l, .ref x], []⟩) (fun _ R s => NotOf x "tuple" s ∧ R (.ok (.ret .notImplemented)) s) :=
  .of_wp fun prog w A R s h => by obtain ⟨hp, g, d, tk, os⟩ := s; obtain ⟨f1, h⟩ := h; unfold NotOf at f1; wp_walk using f1; exact ⟨_, rfl, h⟩
theorem tuple_ne_ins (l x : Addr) : Meets (Builtin.«tuple.__ne__» ⟨[.ref l, .ref x], []⟩) (fun _ R s => NotOf x "tuple" s ∧ R (.ok (.ret .notImplemented)) s) :=
  .of_wp fun prog w A R s h => by obtain ⟨hp, g, d, tk, os⟩ := s; obtain ⟨f1, h⟩ := h; unfold NotOf at f1; wp_walk using f1; exact ⟨_, rfl, h⟩
/-- None, a number, a string, a list or a tuple -/
def Kind (H : Hp) (z : V) : Prop := z = .non ∨ (∃ i, z = .int i) ∨ (∃ t, z = .str t) ∨ (∃ a xs, z = .ref a ∧ H a = some (.lst xs)) ∨ (∃ a xs, z = .ref a ∧ H a = some (.tup xs))
/-- u, of the type T, declines x -/
structure Decl (s : Shared) (K : Frag) (C : Addr) (x : Addr) (u : Value) (T : String) : Prop where
  ty : s.TypeIs u T
  sub : subIn K (.type T) (.ref C) = some false
  mro : mroIn K C (.type T) = some false
  eq : ∀ (prog : Program) (w : World) (A : Around) (Q : Option Value → Shared → Prop) (E : Value → Shared → Prop), Q none s → wpAny (model prog w) A (tryCompare u "__eq__" (.ref x)) Q E s
  ne : ∀ (prog : Program) (w : World) (A : Around) (Q : Option Value → Shared → Prop) (E : Value → Shared → Prop), Q none s → wpAny (model prog w) A (tryCompare u "__ne__" (.ref x)) Q E s
theorem sub_builtin {K : Frag} {C : Addr} {n : String} {ms : List String} (e : fastBuiltinMro n = some (ms.map Value.type)) : subIn K (.type n) (.ref C) = some false := by
  show (fastBuiltinMro n).map (·.contains (.ref C)) = some false
  rw [e]
  show some ((ms.map Value.type).contains (.ref C)) = some false
  congr 1
  induction ms with
  | nil => rfl
  | cons m ms ih =>
    show (Value.ref C == Value.type m || (ms.map Value.type).contains (.ref C)) = false
    rw [Bool.or_eq_false_iff]
    refine ⟨by simp, ?_⟩
    simp
/-- the class is no subclass of these -/
structure Apart (K : Frag) (C : Addr) : Prop where
  non : mroIn K C (.type "NoneType") = some false
  int : mroIn K C (.type "int") = some false
  str : mroIn K C (.type "str") = some false
  lst : mroIn K C (.type "list") = some false
  tup : mroIn K C (.type "tuple") = some false
theorem notOf {K : Frag} {C x dx : Addr} {s : Shared} {n : String} (X : K.In s.heap) (hx : s.heap.get? x = some (instObj C dx)) (hm : mroIn K C (.type n) = some false) : NotOf x n s := fun M A Q E q => by
  unfold isInstance
  refine wpAny_bind (wpAny_typeOf_ref hx ?_)
  exact (looks_mroIn X hm).here q
theorem kind_decl {P : Program} {w : World} {H : Hp} {s : Shared} {K : Frag} {C x dx : Addr} {z : V} {u : Value} (hok : HOk P w H s.heap) (X : K.In s.heap) (hx : s.heap.get? x = some (instObj C dx)) (ap : Apart K C) (hz : Kind H z) (r : RelV z u) : ∃ T, Decl s K C x u T := by
  rcases hz with rfl | ⟨i, rfl⟩ | ⟨t, rfl⟩ | ⟨a, xs, rfl, e⟩ | ⟨a, xs, rfl, e⟩
  · obtain rfl : u = Value.none := r
    exact ⟨"NoneType", rfl, sub_builtin (ms := ["NoneType", "object"]) (by decide +kernel), ap.non,
      fun prog w A Q E q => wpAny_tryCompare_declines (show s.TypeIs .none "NoneType" from rfl) F.slot_NoneType_eq (call_gives F.slot_NoneType_eq rfl F.entry_NoneType_eq (F.args_NoneType_eq_2 _ _) (none_eq_ins x) ⟨rfl, q⟩),
      fun prog w A Q E q => wpAny_tryCompare_declines (show s.TypeIs .none "NoneType" from rfl) F.slot_NoneType_ne (call_gives F.slot_NoneType_ne rfl F.entry_NoneType_ne (F.args_NoneType_ne_2 _ _) (none_ne_ins x) ⟨rfl, q⟩)⟩
  · obtain ⟨t, rfl⟩ := r
    exact ⟨"int", rfl, sub_builtin (ms := ["int", "object"]) (by decide +kernel), ap.int,
      fun prog w A Q E q => wpAny_tryCompare_declines (show s.TypeIs (.int i t) "int" from rfl) F.slot_int_eq (call_meets F.slot_int_eq rfl F.entry_int_eq (F.args_int_eq_2 _ _) (int_eq_ins i t x C dx) ⟨hx, rfl, q⟩),
      fun prog w A Q E q => wpAny_tryCompare_declines (show s.TypeIs (.int i t) "int" from rfl) F.slot_int_ne (call_meets F.slot_int_ne rfl F.entry_int_ne (F.args_int_ne_2 _ _) (int_ne_ins i t x C dx) ⟨hx, rfl, q⟩)⟩
  · obtain ⟨k, rfl⟩ := r
    exact ⟨"str", rfl, sub_builtin (ms := ["str", "object"]) (by decide +kernel), ap.str,
      fun prog w A Q E q => wpAny_tryCompare_declines (show s.TypeIs (.str t k) "str" from rfl) F.slot_str_eq (call_meets F.slot_str_eq rfl F.entry_str_eq (F.args_str_eq_2 _ _) (str_eq_ins t k x C dx) ⟨hx, rfl, q⟩),
      fun prog w A Q E q => wpAny_tryCompare_declines (show s.TypeIs (.str t k) "str" from rfl) F.slot_str_ne (call_meets F.slot_str_ne rfl F.entry_str_ne (F.args_str_ne_2 _ _) (str_ne_ins t k x C dx) ⟨hx, rfl, q⟩)⟩
  · obtain rfl : u = Value.ref a := r
    obtain ⟨_, its, n, _, ho⟩ := (show ObjOk P w H s.heap a (.lst xs) from hok a _ e)
    exact ⟨"list", ⟨_, ho, rfl⟩, sub_builtin (ms := ["list", "object"]) (by decide +kernel), ap.lst,
      fun prog w A Q E q => wpAny_tryCompare_declines (show s.TypeIs (.ref a) "list" from ⟨_, ho, rfl⟩) F.slot_list_eq (call_meets F.slot_list_eq ⟨_, ho, rfl⟩ F.entry_list_eq (F.args_list_eq_2 _ _) (list_eq_ins a x) ⟨notOf X hx ap.lst, rfl, q⟩),
      fun prog w A Q E q => wpAny_tryCompare_declines (show s.TypeIs (.ref a) "list" from ⟨_, ho, rfl⟩) F.slot_list_ne (call_meets F.slot_list_ne ⟨_, ho, rfl⟩ F.entry_list_ne (F.args_list_ne_2 _ _) (list_ne_ins a x) ⟨notOf X hx ap.lst, rfl, q⟩)⟩
  · obtain rfl : u = Value.ref a := r
    obtain ⟨_, its, _, ho⟩ := (show ObjOk P w H s.heap a (.tup xs) from hok a _ e)
    have ht : s.TypeIs (.ref a) "tuple" := by
      obtain ⟨o, h1, h2, _⟩ := ho
      exact ⟨o, h1, h2⟩
    exact ⟨"tuple", ht, sub_builtin (ms := ["tuple", "object"]) (by decide +kernel), ap.tup,
      fun prog w A Q E q => wpAny_tryCompare_declines ht F.slot_tuple_eq (call_meets F.slot_tuple_eq ht F.entry_tuple_eq (F.args_tuple_eq_2 _ _) (tuple_eq_ins a x) ⟨notOf X hx ap.tup, rfl, q⟩),
      fun prog w A Q E q => wpAny_tryCompare_declines ht F.slot_tuple_ne (call_meets F.slot_tuple_ne ht F.entry_tuple_ne (F.args_tuple_ne_2 _ _) (tuple_ne_ins a x) ⟨notOf X hx ap.tup, rfl, q⟩)⟩

section
variable {prog : Program} {w : World} {A : Around} {E : Value → Shared → Prop} {s : Shared} {K : Frag} {x C L f dx : Addr} {h₀ : Heap} {m : Str → Option Value} {u : Value} {T : String} {od : Option Obj}
theorem type_ne (C : Addr) (T : String) : (Value.type T != Value.ref C) = true := by simp
theorem ne_type (C : Addr) (T : String) : (Value.ref C != Value.type T) = true := by simp
theorem notFirst_ty (h : subIn K (.type T) (.ref C) = some false) : notFirst K C (.type T) = true := by
  unfold notFirst
  rw [h]
  simp
/-- u == x, the other one's __eq__ asked -/
theorem eq_refl_K {Q : Value → Shared → Prop} (hu : A.units < cLine) (X : K.In s.heap) (hx : s.heap.get? x = some (instObj C dx)) (I : InstAt s.heap x (instObj C dx) C od) (D : Decl s K C x u T)
    (hs : findIn K (.ref C) "__eq__" = some (some (.ref f))) (hf : isFn K (.ref f) = true)
    (h : wpAny (model prog w) A (call (.ref f) [.ref x, u]) (PySem.W.CmpBack Q) E s) : wpAny (model prog w) A (richCompare .Eq u (.ref x)) Q E s := by
  have two : wpAny (model prog w) A (tryCompare (.ref x) "__eq__" u) (fun r s' => ∃ v, r = some v ∧ Q v s') E s := by
    unfold tryCompare
    refine wpAny_bind (ifBound_K X I hs hf (wpAny_mono h (fun v s' hv => ?_) fun _ _ e => e))
    cases v <;> first | exact hv.elim | exact wpAny_pure ⟨_, rfl, hv⟩
  simp only [richCompare, cmpInfo_Eq, D.ty.oneThing_none]
  refine wpAny_holding (wpAny_bind (wpAny_cRoomFor hu ?_))
  refine wpAny_bind (wpAny_typeOf D.ty (wpAny_bind (wpAny_typeOf_ref hx ?_)))
  rw [show (instObj C dx).cls = .ref C from rfl, type_ne]
  simp only [if_true]
  refine wpAny_bind ((looks_mroIn X D.mro).here ?_)
  simp only [Bool.false_eq_true, if_false, Bool.not_false, if_true]
  refine wpAny_bind (m := tryCompare u _ (.ref x)) (D.eq prog w A _ E ?_)
  refine wpAny_bind (m := tryCompare (.ref x) _ u) (wpAny_mono two (fun r s' z => ?_) fun _ _ e => e)
  obtain ⟨v, rfl, hq⟩ := z
  exact wpAny_pure hq
/-- object.__ne__ of x and any value -/
theorem ne_entry {Q : Fin → Shared → Prop} (hu : A.units < cLine) (X : K.In s.heap) (I : InstAt s.heap x (instObj C dx) C od)
    (hs : findIn K (.ref C) "__eq__" = some (some (.ref f))) (hf : isFn K (.ref f) = true)
    (hcall : wpAny (model prog w) A (call (.ref f) [.ref x, u]) (fun v s' => ∃ b, v = .bool b ∧ Q (.done (.ret (.bool (!b)))) s') E s) :
    wpAny (model prog w) A (Builtin.«object.__ne__» ⟨[.ref x, u], []⟩) Q E s := by
  unfold Builtin.«object.__ne__»
  repeat (first
    | with_reducible refine wpAny_cRoomFor hu ?_
    | (refine wpAny_bind (m := callSpecialIfBound? (.ref x) (Str.ofString "__eq__") [u])
        (ifBound_K X I hs hf (wpAny_mono hcall (fun v s' hv => by
          obtain ⟨b, rfl, hq⟩ := hv
          repeat (first | exact hq | exact wpAny_pure hq | exact wpAny_truthy_bool hq | (refine wpAny_bind (m := truthy (.bool _)) (wpAny_truthy_bool ?_)) | wp_step)) fun _ _ e => e)))
    | wp_step)
theorem try_ne {Q : Option Value → Shared → Prop} (hu : A.in1.units < cLine) (X : K.In s.heap) (I : InstAt s.heap x (instObj C dx) C od)
    (hs : findIn K (.ref C) "__eq__" = some (some (.ref f))) (hf : isFn K (.ref f) = true) (hm : mroIn K C (.type "object") = some true) (hn : findIn K (.ref C) "__ne__" = some (some (.builtin "object.__ne__")))
    (hcall : wpAny (model prog w) A.in1 (call (.ref f) [.ref x, u]) (fun v s' => ∃ b, v = .bool b ∧ Q (some (.bool (!b))) s') E s) :
    wpAny (model prog w) A (tryCompare (.ref x) "__ne__" u) Q E s := by
  unfold tryCompare
  refine wpAny_bind ?_
  simp only [callSpecialIfBound?, bindSpecialIfBound?]
  refine wpAny_holding (wpAny_bind (wpAny_bind (wpAny_bind (I.type.here ((looks_findIn X hn).here ?_)))))
  refine wpAny_bind (wpAny_askSetting (wpAny_ite ?_))
  have one : wpAny (model prog w) A (call (.builtin "object.__ne__") [.ref x, u]) (fun v s' => ∃ b, v = .bool b ∧ Q (some (.bool b)) s') E s :=
    wpAny_call (codeAny_call_builtin F.cmp_object.ne.plain F.cmpEntry_ne (check_slot F.cmpKind_ne F.cmpSplit_ne (I.type.andThen (looks_mroIn X hm)) (F.cmpArgs_ne _ _)
      (ne_entry (A := A.in1) hu X I hs hf (wpAny_mono hcall (fun v s' hv => by
        obtain ⟨b, rfl, hq⟩ := hv
        exact ⟨b, rfl, _, rfl, hq⟩) fun _ _ e => e))))
  have fin : wpAny (model prog w) A (call (.builtin "object.__ne__") ([.ref x] ++ [u]) >>= fun v => pure (some v)) (fun r s' => wpAny (model prog w) A (match r with
      | some .notImplemented | none => pure none
      | some v => pure (some v)) Q E s') E s := wpAny_bind (wpAny_mono one (fun v s' h' => by
    obtain ⟨b, rfl, hq⟩ := h'
    exact wpAny_pure (wpAny_pure hq)) fun _ _ h' => h')
  split
  · exact wpAny_bind (wpAny_of_eq (F.cmp_object.ne.bind _) (wpAny_pure (by exact fin)))
  · exact wpAny_tryCatch (wpAny_bind (wpAny_of_eq (F.cmp_object.ne.bind _) (wpAny_pure (by exact fin))))
/-- x != u -/
theorem ne_K {Q : Value → Shared → Prop} {tb : Value} (hu : A.units < cLine) (hu1 : A.in1.units < cLine) (X : K.In s.heap) (I : InstAt s.heap x (instObj C dx) C od) (hb : Looks (model prog w) s.heap (typeOf u) tb) (hn1 : notFirst K C tb = true)
    (hs : findIn K (.ref C) "__eq__" = some (some (.ref f))) (hf : isFn K (.ref f) = true) (hm : mroIn K C (.type "object") = some true) (hn : findIn K (.ref C) "__ne__" = some (some (.builtin "object.__ne__")))
    (hcall : wpAny (model prog w) A.in1 (call (.ref f) [.ref x, u]) (fun v s' => ∃ b, v = .bool b ∧ Q (.bool (!b)) s') E s) :
    wpAny (model prog w) A (richCompare .NotEq (.ref x) u) Q E s := by
  have one : wpAny (model prog w) A (tryCompare (.ref x) "__ne__" u) (fun r s' => ∃ v, r = some v ∧ Q v s') E s :=
    try_ne hu1 X I hs hf hm hn (wpAny_mono hcall (fun v s' hv => by
      obtain ⟨b, rfl, hq⟩ := hv
      exact ⟨b, rfl, _, rfl, hq⟩) fun _ _ e => e)
  simp only [richCompare, cmpInfo_NotEq, oneThing_ref]
  refine wpAny_holding (wpAny_bind (wpAny_cRoomFor hu ?_))
  refine wpAny_bind (I.type.here (wpAny_bind (hb.here ?_)))
  split
  · rename_i q
    have e : subIn K tb (.ref C) = some false := by
      rcases Bool.or_eq_true_iff.mp hn1 with e | e
      · rw [beq_iff_eq.mp e] at q; simp at q
      · exact beq_iff_eq.mp e
    refine wpAny_bind ((looks_subIn X e).here ?_)
    simp only [Bool.false_eq_true, if_false]
    refine wpAny_bind (m := tryCompare (.ref x) _ u) (wpAny_mono one (fun r s' z => ?_) fun _ _ e => e)
    obtain ⟨v, rfl, hq⟩ := z
    exact wpAny_pure hq
  · refine wpAny_bind (wpAny_pure ?_)
    simp only [Bool.false_eq_true, if_false]
    refine wpAny_bind (m := tryCompare (.ref x) _ u) (wpAny_mono one (fun r s' z => ?_) fun _ _ e => e)
    obtain ⟨v, rfl, hq⟩ := z
    exact wpAny_pure hq
/-- u != x -/
theorem ne_refl_K {Q : Value → Shared → Prop} (hu : A.units < cLine) (hu1 : A.in1.units < cLine) (X : K.In s.heap) (hx : s.heap.get? x = some (instObj C dx)) (I : InstAt s.heap x (instObj C dx) C od) (D : Decl s K C x u T)
    (hs : findIn K (.ref C) "__eq__" = some (some (.ref f))) (hf : isFn K (.ref f) = true) (hm : mroIn K C (.type "object") = some true) (hn : findIn K (.ref C) "__ne__" = some (some (.builtin "object.__ne__")))
    (hcall : wpAny (model prog w) A.in1 (call (.ref f) [.ref x, u]) (fun v s' => ∃ b, v = .bool b ∧ Q (.bool (!b)) s') E s) :
    wpAny (model prog w) A (richCompare .NotEq u (.ref x)) Q E s := by
  have two : wpAny (model prog w) A (tryCompare (.ref x) "__ne__" u) (fun r s' => ∃ v, r = some v ∧ Q v s') E s :=
    try_ne hu1 X I hs hf hm hn (wpAny_mono hcall (fun v s' hv => by
      obtain ⟨b, rfl, hq⟩ := hv
      exact ⟨b, rfl, _, rfl, hq⟩) fun _ _ e => e)
  simp only [richCompare, cmpInfo_NotEq, D.ty.oneThing_none]
  refine wpAny_holding (wpAny_bind (wpAny_cRoomFor hu ?_))
  refine wpAny_bind (wpAny_typeOf D.ty (wpAny_bind (wpAny_typeOf_ref hx ?_)))
  rw [show (instObj C dx).cls = .ref C from rfl, type_ne]
  simp only [if_true]
  refine wpAny_bind ((looks_mroIn X D.mro).here ?_)
  simp only [Bool.false_eq_true, if_false, Bool.not_false, if_true]
  refine wpAny_bind (m := tryCompare u _ (.ref x)) (D.ne prog w A _ E ?_)
  refine wpAny_bind (m := tryCompare (.ref x) _ u) (wpAny_mono two (fun r s' z => ?_) fun _ _ e => e)
  obtain ⟨v, rfl, hq⟩ := z
  exact wpAny_pure hq
end
end
theorem looks_ty {M : Model} {s : Shared} {u : Value} {T : String} (h : s.TypeIs u T) : PySem.W.Looks M s.heap (typeOf u) (.type T) := fun A Q E s' k q => by
  refine wpAny_typeOf (T := T) ?_ q
  cases u <;> first | exact h | (obtain ⟨o, h1, h2⟩ := h; exact ⟨o, k _ _ h1, h2⟩)
/-- what of the text the class must have -/
structure CmpC (K : PySem.W.Frag) (C : Addr) : Prop where
  ap : Apart K C
  ob : PySem.W.mroIn K C (.type "object") = some true
  ne : PySem.W.findIn K (.ref C) "__ne__" = some (some (.builtin "object.__ne__"))
def CmpTwo (C : Addr) (x y : V) (H : Hp) (a : Addr) (z : V) : Prop := (∃ dx fs, H a = some (.ins C dx fs)) ∧ ((x = .ref a ∧ y = z ∧ (Kind H z ∨ ∃ b dy gs, z = .ref b ∧ H b = some (.ins C dy gs))) ∨ (x = z ∧ y = .ref a ∧ Kind H z))
def rEqAny (C : Addr) (sp : Sp) : R2 := fun x y H Q => ∃ a z, CmpTwo C x y H a z ∧ sp [.ref a, z] H Q E0
def rNeAny (C : Addr) (sp : Sp) : R2 := fun x y H Q => ∃ a z, CmpTwo C x y H a z ∧ sp [.ref a, z] H (fun r H' => ∃ b, r = .bl b ∧ Q (.bl (!b)) H') E0
theorem op_eqAny {X : Cx} {k : Nat} {C f : Addr} {fd : FuncData} {ps : List Str} {sp : Sp} (c : CmpC X.K C) (m : Meth X.K C "__eq__" f) (F : FnOk X.prog X.w X.K X.mg X.base CX0 k f fd ps sp) (hr : Room k X.A) (hb : Binds X.K fd ps []) : OpR X (compareOp .Eq) (rEqAny C sp) := by
  intro pins s σ H x y v u Q I rx ry h
  obtain ⟨a, z, ⟨⟨dx, fs, ha⟩, h2⟩, h⟩ := h
  obtain ⟨mA, J, _⟩ := ins_get I.hok ha
  have hx := J.obj
  obtain ⟨od, J, _⟩ := J.look
  obtain ⟨m', hF⟩ := I.fr
  have hl : ([Value.ref a, v] ++ ([] : List Value)).length = ps.length := by
    rw [← F.len _ _ _ _ h]
    rfl
  have go : ∀ t, RelV z t → wpAny (model X.prog X.w) X.A (call (.ref f) [.ref a, t]) (PySem.W.CmpBack (EP X pins σ Q)) X.xe s := fun t rt =>
    wpAny_call (codeAny_mono (F.run X.A X.stack s H ⟨[.ref a, t], []⟩ [.ref a, t] [.ref a, z] _ E0 hr I.env0 (hb s [.ref a, t] I.kIn hl) (.cons rfl (.cons rt .nil)) h) fun r s' hq => by
      cases r with
      | error er => exact False.elim hq
      | ok fl =>
        cases fl with
        | ret w =>
          obtain ⟨z', H', I', rz, qz⟩ := I.after hq
          exact SlX.cmpback rz ⟨z', H', I', rz, qz⟩
        | next => exact False.elim hq
        | brk => exact False.elim hq
        | cont => exact False.elim hq)
  rcases h2 with ⟨rfl, rfl, h2⟩ | ⟨rfl, rfl, h2⟩
  · obtain rfl : v = Value.ref a := rx
    show wpAny (model X.prog X.w) X.A (richCompare .Eq (.ref a) u) (EP X pins σ Q) X.xe s
    rcases h2 with h2 | ⟨b, dy, gs, rfl, hb'⟩
    · obtain ⟨T, D⟩ := kind_decl I.hok I.kIn hx c.ap h2 ry
      exact PySem.W.cmp_K (op := .Eq) (tb := .type T) hr.units0 hF I.ok.mod.kin J (looks_ty D.ty) (notFirst_ty D.sub) m.at_ m.fn (go u ry)
    · obtain rfl : u = Value.ref b := ry
      obtain ⟨mB, J', _⟩ := ins_get I.hok hb'
      obtain ⟨od', J', _⟩ := J'.look
      exact PySem.W.cmp_K (op := .Eq) (tb := .ref C) hr.units0 hF I.ok.mod.kin J J'.type (by simp [PySem.W.notFirst]) m.at_ m.fn (go _ rfl)
  · obtain rfl : u = Value.ref a := ry
    obtain ⟨T, D⟩ := kind_decl I.hok I.kIn hx c.ap h2 rx
    exact eq_refl_K hr.units0 I.kIn hx J D m.at_ m.fn (go v rx)
theorem op_neAny {X : Cx} {k : Nat} {C f : Addr} {fd : FuncData} {ps : List Str} {sp : Sp} (c : CmpC X.K C) (m : Meth X.K C "__eq__" f) (F : FnOk X.prog X.w X.K X.mg X.base CX0 k f fd ps sp) (hr : Room (k + 1) X.A) (hb : Binds X.K fd ps []) : OpR X (compareOp .NotEq) (rNeAny C sp) := by
  intro pins s σ H x y v u Q I rx ry h
  obtain ⟨a, z, ⟨⟨dx, fs, ha⟩, h2⟩, h⟩ := h
  obtain ⟨mA, J, _⟩ := ins_get I.hok ha
  have hx := J.obj
  obtain ⟨od, J, _⟩ := J.look
  have hl : ([Value.ref a, v] ++ ([] : List Value)).length = ps.length := by
    rw [← F.len _ _ _ _ h]
    rfl
  have go : ∀ t, RelV z t → wpAny (model X.prog X.w) X.A.in1 (call (.ref f) [.ref a, t]) (fun v s' => ∃ b, v = .bool b ∧ EP X pins σ Q (.bool (!b)) s') X.xe s := fun t rt =>
    wpAny_call (codeAny_mono (F.run X.A.in1 X.stack s H ⟨[.ref a, t], []⟩ [.ref a, t] [.ref a, z] _ E0 hr.in1 I.env0.in1 (hb s [.ref a, t] I.kIn hl) (.cons rfl (.cons rt .nil)) h) fun r s' hq => by
      cases r with
      | error er => exact False.elim hq
      | ok fl =>
        cases fl with
        | ret w =>
          obtain ⟨z', H', I', rz, b, rfl, qz⟩ := I.after hq
          obtain rfl : w = Value.bool b := rz
          exact ⟨b, rfl, .bl (!b), H', I', rfl, qz⟩
        | next => exact False.elim hq
        | brk => exact False.elim hq
        | cont => exact False.elim hq)
  rcases h2 with ⟨rfl, rfl, h2⟩ | ⟨rfl, rfl, h2⟩
  · obtain rfl : v = Value.ref a := rx
    show wpAny (model X.prog X.w) X.A (richCompare .NotEq (.ref a) u) (EP X pins σ Q) X.xe s
    rcases h2 with h2 | ⟨b, dy, gs, rfl, hb'⟩
    · obtain ⟨T, D⟩ := kind_decl I.hok I.kIn hx c.ap h2 ry
      exact ne_K (tb := .type T) hr.units0 hr.in1.units0 I.kIn J (looks_ty D.ty) (notFirst_ty D.sub) m.at_ m.fn c.ob c.ne (go u ry)
    · obtain rfl : u = Value.ref b := ry
      obtain ⟨mB, J', _⟩ := ins_get I.hok hb'
      obtain ⟨od', J', _⟩ := J'.look
      exact ne_K (tb := .ref C) hr.units0 hr.in1.units0 I.kIn J J'.type (by simp [PySem.W.notFirst]) m.at_ m.fn c.ob c.ne (go _ rfl)
  · obtain rfl : u = Value.ref a := ry
    obtain ⟨T, D⟩ := kind_decl I.hok I.kIn hx c.ap h2 rx
    exact ne_refl_K hr.units0 hr.in1.units0 I.kIn hx J D m.at_ m.fn c.ob c.ne (go v rx)
/-! ### heaps -/
theorem same_upd {H : Hp} {p : Addr} {o : HO} (h : H p = none) : Same H (upd H p o) := fun b x e => by
  rw [upd_ne (ne_of_none e h)]
  exact e
theorem Same.tup {K : PySem.W.Frag} {H H' : Hp} {a : Addr} {xs : List V} (e : Same H H') (h : SqT K H a xs) : SqT K H' a xs := by
  rcases h with (h | ⟨o, h⟩) | h
  · exact .inl (.inl (e _ _ h))
  · exact .inl (.inr ⟨o, e _ _ h⟩)
  · exact .inr h
theorem ixN_nat {n j : Nat} (hj : j < n) : ixN n (j : Int) = some j := by
  unfold ixN
  rw [if_pos (by omega), if_pos (by omega), Int.toNat_natCast]
theorem iteD {c A B : Prop} [Decidable c] (hc : c) (h : A) : if decide c = true then A else B := by
  rw [decide_eq_true hc]
  exact iteT h
theorem iteND {c A B : Prop} [Decidable c] (hc : ¬ c) (h : B) : if decide c = true then A else B := by
  rw [decide_eq_false hc]
  exact iteF h
theorem iteB {b : Bool} {A B : Prop} (hb : b = true) (h : A) : if b = true then A else B := by
  rw [hb]
  exact iteT h
theorem iteNB {b : Bool} {A B : Prop} (hb : b = false) (h : B) : if b = true then A else B := by
  rw [hb]
  exact iteF h
/-! ### walks: a text in a comprehension, enumerate -/
theorem lc_str {x : Str} {g : TG} {tt : TT} {te : TE} {vs : List Nat} {σ : L2.St} {H1 : Hp} {D : Addr} {Qd : Hp → Prop} (Pv : Nat → Hp → Prop) (h0 : Pv 0 (upd H1 D (.lst [])))
    (hs : ∀ i c H, x.cps[i]? = some c → Pv i H → g (.str ⟨#[c]⟩) (wipe σ vs) H fun σ2 H2 => wipe σ2 vs = wipe σ vs ∧ tt σ2 H2 fun b H3 =>
      if b = true then te σ2 H3 fun y H4 => ∃ acc, H4 D = some (.lst acc) ∧ acc.length < sizeLine ∧ Pv (i + 1) (upd H4 D (.lst (acc ++ [y]))) else Pv (i + 1) H3) (hd : ∀ H, Pv x.cps.size H → Qd H) :
    ∃ W : Nat → Nat → Hp → Prop, (∃ m, W 0 m (upd H1 D (.lst []))) ∧ ∀ i m H, W i m H →
      ((Its x).stop i H ∧ Qd H) ∨ ((Its x).go i H ∧ ∃ Nx : Hp → Prop, (∀ H', Nx H' → ∃ m', m' < m ∧ W (i + 1) m' H') ∧ ∀ v H', (Its x).yld i H v H' → g v (wipe σ vs) H' fun σ2 H2 => wipe σ2 vs = wipe σ vs ∧ tt σ2 H2 fun b H3 =>
        if b = true then te σ2 H3 fun y H4 => ∃ acc, H4 D = some (.lst acc) ∧ acc.length < sizeLine ∧ Nx (upd H4 D (.lst (acc ++ [y]))) else Nx H3) := by
  refine ⟨fun i m H => m = x.cps.size - i ∧ i ≤ x.cps.size ∧ Pv i H, ⟨_, rfl, Nat.zero_le _, h0⟩, ?_⟩
  rintro i m H ⟨rfl, hi, p⟩
  by_cases hlt : i < x.cps.size
  · refine .inr ⟨hlt, Pv (i + 1), fun H' p' => ⟨x.cps.size - (i + 1), by omega, rfl, hlt, p'⟩, fun v H' y => ?_⟩
    obtain ⟨e, c, hc, e2⟩ := y
    subst e e2
    exact hs i c _ hc p
  · have e : i = x.cps.size := by omega
    subst e
    exact .inl ⟨Nat.le_refl _, hd H p⟩
theorem for_enum {K : PySem.W.Frag} {a : Addr} {xs : List V} {g : TG} {tb : TS} {D : Ends} {σ : L2.St} {H : Hp} (Pv : Nat → L2.St → Hp → Prop) (h0 : Pv 0 σ H) (hl : ∀ i σ H, i ≤ xs.length → Pv i σ H → SqL K H a xs)
    (hs : ∀ i x σ H T, xs[i]? = some x → Pv i σ H → H T = none → g (.ref T) σ (upd H T (.tup [.int (i : Nat), x])) fun σ2 H2 => tb { D with nx := Pv (i + 1), ct := Pv (i + 1), bk := D.nx } σ2 H2) (hd : ∀ σ H, Pv xs.length σ H → D.nx σ H) :
    ∃ W : Nat → Nat → L2.St → Hp → Prop, (∃ m, W 0 m σ H) ∧ ∀ i m σ H, W i m σ H →
      ((Ite K a).stop i H ∧ D.nx σ H) ∨ ((Ite K a).go i H ∧ ∃ N : L2.St → Hp → Prop, (∀ σ' H', N σ' H' → ∃ m', m' < m ∧ W (i + 1) m' σ' H') ∧ ∀ x H', (Ite K a).yld i H x H' → g x σ H' fun σ2 H2 => tb { D with nx := N, ct := N, bk := D.nx } σ2 H2) := by
  refine ⟨fun i m σ H => m = xs.length - i ∧ i ≤ xs.length ∧ Pv i σ H, ⟨_, rfl, Nat.zero_le _, h0⟩, ?_⟩
  rintro i m σ H ⟨rfl, hi, p⟩
  have q := hl i σ H hi p
  by_cases hlt : i < xs.length
  · refine .inr ⟨⟨xs, xs[i], q, List.getElem?_eq_getElem hlt⟩, Pv (i + 1), fun σ' H' p' => ⟨xs.length - (i + 1), by omega, rfl, hlt, p'⟩, fun v H' y => ?_⟩
    obtain ⟨T, x, e1, hT, e2, hx⟩ := y
    subst e1 e2
    exact hs i x σ H T (hx xs q) p hT
  · have e : i = xs.length := by omega
    subst e
    exact .inl ⟨⟨xs, q, Nat.le_refl _⟩, hd σ H p⟩
/-! ### texts -/
def Low (z : Str) : Prop := ∀ c ∈ z.cps.toList, 97 ≤ c ∧ c ≤ 122
structure Nm (z : Str) : Prop where
  pos : 1 ≤ z.length
  few : z.length ≤ 8
  low : Low z
theorem len_l (z : Str) : z.length = z.cps.toList.length := by simp [Str.length]
theorem inV_str (z : Str) : ∀ ss : List Str, inV (.str z) (ss.map V.str) = decide (z ∈ ss)
  | [] => rfl
  | a :: r => by
    have ih := inV_str z r
    unfold inV at ih ⊢
    rw [List.map_cons, List.any_cons, ih]
    show ((a == z) || decide (z ∈ r)) = decide (z ∈ a :: r)
    by_cases h : a = z
    · subst h
      simp
    · have h2 : (a == z) = false := beq_eq_false_iff_ne.mpr h
      rw [h2, Bool.false_or]
      by_cases h3 : z ∈ r
      · rw [decide_eq_true h3, decide_eq_true (List.mem_cons_of_mem _ h3)]
      · rw [decide_eq_false h3, decide_eq_false (fun m => by rcases List.mem_cons.mp m with e | e; exact h e.symm; exact h3 e)]
theorem flat_strs : ∀ ss : List Str, (ss.map V.str).all flatV = true
  | [] => rfl
  | _ :: r => by
    rw [List.map_cons, List.all_cons, flat_strs r]
    rfl
theorem cut_take (xs : List V) (i : Nat) : cutV xs none (some (i : Int)) = xs.take i := by
  unfold cutV
  rw [HT.sIx_none, show HT.sIx xs.length xs.length (some (i : Int)) = min i xs.length from HT.sIx_nat _ _ i, List.drop_zero, Nat.sub_zero]
  by_cases h : i ≤ xs.length
  · rw [Nat.min_eq_left h]
  · rw [Nat.min_eq_right (by omega), List.take_of_length_le (Nat.le_refl _), List.take_of_length_le (by omega)]
theorem cut_drop (xs : List V) (i : Nat) : cutV xs (some (i : Int)) none = xs.drop i := by
  unfold cutV
  rw [HT.sIx_none, show HT.sIx xs.length 0 (some (i : Int)) = min i xs.length from HT.sIx_nat _ _ i]
  by_cases h : i ≤ xs.length
  · rw [Nat.min_eq_left h]
    exact List.take_of_length_le (by rw [List.length_drop]; exact Nat.le_refl _)
  · rw [Nat.min_eq_right (by omega), Nat.sub_self, List.take_zero, List.drop_eq_nil_of_le (by omega)]
def six : List Str := ["before", "upto", "same", "apart", "far", "next"]
def two : List Str := ["first", "last"]
/-- a tuple that is a rule of these tasks -/
def RuleOk (ts : List Str) (l : List Str) : Prop :=
  (∃ k x, k ∈ two ∧ x ∈ ts ∧ l = [k, x]) ∨ ∃ k x y, k ∈ six ∧ x ∈ ts ∧ y ∈ ts ∧ x ≠ y ∧ l = [k, x, y]
structure TasksOk (ts : List Str) : Prop where
  ne : ts ≠ []
  nm : ∀ z ∈ ts, Nm z
  nd : ts.Nodup
  few : ts.length ≤ 100
def topS (i : Nat) : Stmt := PySem.Challenge.pw_plandays_k12_which_books_are_equal.main.body.getD i (.Pass ⟨0, 0, 0, 0⟩)
abbrev s_is_name : Stmt := topS 12
theorem sc_is_name : FnScope ["text", "sign"] ["text"] (defScope s_is_name) := ⟨rfl, rfl, rfl, by decide +kernel, rfl, by decide +kernel, by decide +kernel⟩
abbrev s_check_tasks : Stmt := topS 13
theorem sc_check_tasks : FnScope ["tasks", "seen", "name"] ["tasks"] (defScope s_check_tasks) := ⟨rfl, rfl, rfl, by decide +kernel, rfl, by decide +kernel, by decide +kernel⟩
abbrev s_check_rule : Stmt := topS 14
theorem sc_check_rule : FnScope ["rule", "tasks", "name"] ["rule", "tasks"] (defScope s_check_rule) := ⟨rfl, rfl, rfl, by decide +kernel, rfl, by decide +kernel, by decide +kernel⟩
abbrev s_Book_init : Stmt := inClass (topS 15) 0
theorem sc_Book_init : FnScope ["self", "tasks", "rules", "rule"] ["self", "tasks", "rules"] (defScope s_Book_init) := ⟨rfl, rfl, rfl, by decide +kernel, rfl, by decide +kernel, by decide +kernel⟩
abbrev s_Book_tasks : Stmt := inClass (topS 15) 1
theorem sc_Book_tasks : FnScope ["self"] ["self"] (defScope s_Book_tasks) := ⟨rfl, rfl, rfl, by decide +kernel, rfl, by decide +kernel, by decide +kernel⟩
abbrev s_Book_rules : Stmt := inClass (topS 15) 2
theorem sc_Book_rules : FnScope ["self"] ["self"] (defScope s_Book_rules) := ⟨rfl, rfl, rfl, by decide +kernel, rfl, by decide +kernel, by decide +kernel⟩
abbrev s_Book_with_rules : Stmt := inClass (topS 15) 4
theorem sc_Book_with_rules : FnScope ["self", "rules"] ["self", "rules"] (defScope s_Book_with_rules) := ⟨rfl, rfl, rfl, by decide +kernel, rfl, by decide +kernel, by decide +kernel⟩
abbrev s_Book_len : Stmt := inClass (topS 15) 12
theorem sc_Book_len : FnScope ["self"] ["self"] (defScope s_Book_len) := ⟨rfl, rfl, rfl, by decide +kernel, rfl, by decide +kernel, by decide +kernel⟩
abbrev s_Book_eq : Stmt := inClass (topS 15) 13
theorem sc_Book_eq : FnScope ["self", "other"] ["self", "other"] (defScope s_Book_eq) := ⟨rfl, rfl, rfl, by decide +kernel, rfl, by decide +kernel, by decide +kernel⟩
abbrev s_law_deck : Stmt := topS 17
theorem sc_law_deck : FnScope ["script", "mixed", "cell", "great"] ["script"] (defScope s_law_deck) := ⟨rfl, rfl, rfl, by decide +kernel, rfl, by decide +kernel, by decide +kernel⟩
abbrev s_law_draw : Stmt := topS 18
theorem sc_law_draw : FnScope ["deck", "many", "one"] ["deck", "many"] (defScope s_law_draw) := ⟨rfl, rfl, rfl, by decide +kernel, rfl, by decide +kernel, by decide +kernel⟩
abbrev s_law_names : Stmt := topS 19
theorem sc_law_names : FnScope ["deck", "many", "letters", "words", "way", "stem", "found", "k", "at", "name", "m", "one"] ["deck", "many"] (defScope s_law_names) := ⟨rfl, rfl, rfl, by decide +kernel, rfl, by decide +kernel, by decide +kernel⟩
abbrev s_law_rule : Stmt := topS 20
theorem sc_law_rule : FnScope ["deck", "task_list", "kinds", "kind", "one"] ["deck", "task_list"] (defScope s_law_rule) := ⟨rfl, rfl, rfl, by decide +kernel, rfl, by decide +kernel, by decide +kernel⟩
abbrev s_law_data : Stmt := topS 21
theorem sc_law_data : FnScope ["deck", "most_tasks", "most_rules", "task_list", "rule_list", "k"] ["deck", "most_tasks", "most_rules"] (defScope s_law_data) := ⟨rfl, rfl, rfl, by decide +kernel, rfl, by decide +kernel, by decide +kernel⟩
abbrev s_law_order : Stmt := topS 22
theorem sc_law_order : FnScope ["deck", "many", "left", "k"] ["deck", "many"] (defScope s_law_order) := ⟨rfl, rfl, rfl, by decide +kernel, rfl, by decide +kernel, by decide +kernel⟩
abbrev s_law_changed : Stmt := topS 23
theorem sc_law_changed : FnScope ["deck", "task_list", "rule_list", "way", "at", "letters", "more", "one", "letter"] ["deck", "task_list", "rule_list"] (defScope s_law_changed) := ⟨rfl, rfl, rfl, by decide +kernel, rfl, by decide +kernel, by decide +kernel⟩
abbrev s_law_compared : Stmt := topS 24
theorem sc_law_compared : FnScope ["one", "two", "due", "told", "unlike", "answer"] ["one", "two", "due"] (defScope s_law_compared) := ⟨rfl, rfl, rfl, by decide +kernel, rfl, by decide +kernel, by decide +kernel⟩
abbrev s_law : Stmt := topS 25
theorem sc_law : FnScope ["script", "deck", "k", "data", "m", "task_list", "rule_list", "books", "cut", "one", "two", "due", "pair", "thing"] ["script"] (defScope s_law) := ⟨rfl, rfl, rfl, by decide +kernel, rfl, by decide +kernel, by decide +kernel⟩
/-- what the top has written, as the walks ask it -/
structure Tx (K : PySem.W.Frag) (w : World) (mg : Str → Option Value) where
  C_Book : Addr
  cl_Book : Cls K C_Book
  mg_Book : mg "Book" = some (.ref C_Book)
  n_Book_tasks : NoAttr K C_Book "_tasks"
  n_Book_rules : NoAttr K C_Book "_rules"
  d__TASKS_IN : Addr
  e__TASKS_IN : Array DictEntry
  i__TASKS_IN : Nat
  g__TASKS_IN : mg "_TASKS_IN" = some (.ref d__TASKS_IN)
  kd__TASKS_IN : KDict K w d__TASKS_IN e__TASKS_IN i__TASKS_IN
  k__TASKS_IN_before : ∃ t, PySem.W.nsIn K d__TASKS_IN "before" = some (some (.int 2 t))
  k__TASKS_IN_upto : ∃ t, PySem.W.nsIn K d__TASKS_IN "upto" = some (some (.int 2 t))
  k__TASKS_IN_same : ∃ t, PySem.W.nsIn K d__TASKS_IN "same" = some (some (.int 2 t))
  k__TASKS_IN_apart : ∃ t, PySem.W.nsIn K d__TASKS_IN "apart" = some (some (.int 2 t))
  k__TASKS_IN_far : ∃ t, PySem.W.nsIn K d__TASKS_IN "far" = some (some (.int 2 t))
  k__TASKS_IN_next : ∃ t, PySem.W.nsIn K d__TASKS_IN "next" = some (some (.int 2 t))
  k__TASKS_IN_first : ∃ t, PySem.W.nsIn K d__TASKS_IN "first" = some (some (.int 1 t))
  k__TASKS_IN_last : ∃ t, PySem.W.nsIn K d__TASKS_IN "last" = some (some (.int 1 t))
  t__LONGEST_NAME : Tok
  v__LONGEST_NAME : mg "_LONGEST_NAME" = some (.int 8 t__LONGEST_NAME)
  f_is_name : Addr
  d_is_name : FuncData
  F_is_name : Fun K "_is_name" "_is_name" s_is_name f_is_name d_is_name
  b_is_name : Binds K d_is_name ["text"] []
  g_is_name : mg "_is_name" = some (.ref f_is_name)
  f_check_tasks : Addr
  d_check_tasks : FuncData
  F_check_tasks : Fun K "_check_tasks" "_check_tasks" s_check_tasks f_check_tasks d_check_tasks
  b_check_tasks : Binds K d_check_tasks ["tasks"] []
  g_check_tasks : mg "_check_tasks" = some (.ref f_check_tasks)
  f_check_rule : Addr
  d_check_rule : FuncData
  F_check_rule : Fun K "_check_rule" "_check_rule" s_check_rule f_check_rule d_check_rule
  b_check_rule : Binds K d_check_rule ["rule", "tasks"] []
  g_check_rule : mg "_check_rule" = some (.ref f_check_rule)
  f_Book_init : Addr
  d_Book_init : FuncData
  F_Book_init : Fun K "__init__" "Book.__init__" s_Book_init f_Book_init d_Book_init
  b_Book_init : Binds K d_Book_init ["self", "tasks", "rules"] []
  mk_Book : Mk K C_Book f_Book_init
  f_Book_tasks : Addr
  d_Book_tasks : FuncData
  F_Book_tasks : Fun K "tasks" "Book.tasks" s_Book_tasks f_Book_tasks d_Book_tasks
  b_Book_tasks : Binds K d_Book_tasks ["self"] []
  p_Book_tasks : Addr
  pr_Book_tasks : PropOf K C_Book "tasks" p_Book_tasks f_Book_tasks
  f_Book_rules : Addr
  d_Book_rules : FuncData
  F_Book_rules : Fun K "rules" "Book.rules" s_Book_rules f_Book_rules d_Book_rules
  b_Book_rules : Binds K d_Book_rules ["self"] []
  p_Book_rules : Addr
  pr_Book_rules : PropOf K C_Book "rules" p_Book_rules f_Book_rules
  f_Book_with_rules : Addr
  d_Book_with_rules : FuncData
  F_Book_with_rules : Fun K "with_rules" "Book.with_rules" s_Book_with_rules f_Book_with_rules d_Book_with_rules
  b_Book_with_rules : Binds K d_Book_with_rules ["self", "rules"] []
  me_Book_with_rules : Meth K C_Book "with_rules" f_Book_with_rules
  f_Book_len : Addr
  d_Book_len : FuncData
  F_Book_len : Fun K "__len__" "Book.__len__" s_Book_len f_Book_len d_Book_len
  b_Book_len : Binds K d_Book_len ["self"] []
  me_Book_len : Meth K C_Book "__len__" f_Book_len
  f_Book_eq : Addr
  d_Book_eq : FuncData
  F_Book_eq : Fun K "__eq__" "Book.__eq__" s_Book_eq f_Book_eq d_Book_eq
  b_Book_eq : Binds K d_Book_eq ["self", "other"] []
  me_Book_eq : Meth K C_Book "__eq__" f_Book_eq
  f_law_deck : Addr
  d_law_deck : FuncData
  F_law_deck : Fun K "_law_deck" "_law_deck" s_law_deck f_law_deck d_law_deck
  b_law_deck : Binds K d_law_deck ["script"] []
  g_law_deck : mg "_law_deck" = some (.ref f_law_deck)
  f_law_draw : Addr
  d_law_draw : FuncData
  F_law_draw : Fun K "_law_draw" "_law_draw" s_law_draw f_law_draw d_law_draw
  b_law_draw : Binds K d_law_draw ["deck", "many"] []
  g_law_draw : mg "_law_draw" = some (.ref f_law_draw)
  f_law_names : Addr
  d_law_names : FuncData
  F_law_names : Fun K "_law_names" "_law_names" s_law_names f_law_names d_law_names
  b_law_names : Binds K d_law_names ["deck", "many"] []
  g_law_names : mg "_law_names" = some (.ref f_law_names)
  f_law_rule : Addr
  d_law_rule : FuncData
  F_law_rule : Fun K "_law_rule" "_law_rule" s_law_rule f_law_rule d_law_rule
  b_law_rule : Binds K d_law_rule ["deck", "task_list"] []
  g_law_rule : mg "_law_rule" = some (.ref f_law_rule)
  f_law_data : Addr
  d_law_data : FuncData
  F_law_data : Fun K "_law_data" "_law_data" s_law_data f_law_data d_law_data
  b_law_data : Binds K d_law_data ["deck", "most_tasks", "most_rules"] []
  g_law_data : mg "_law_data" = some (.ref f_law_data)
  f_law_order : Addr
  d_law_order : FuncData
  F_law_order : Fun K "_law_order" "_law_order" s_law_order f_law_order d_law_order
  b_law_order : Binds K d_law_order ["deck", "many"] []
  g_law_order : mg "_law_order" = some (.ref f_law_order)
  f_law_changed : Addr
  d_law_changed : FuncData
  F_law_changed : Fun K "_law_changed" "_law_changed" s_law_changed f_law_changed d_law_changed
  b_law_changed : Binds K d_law_changed ["deck", "task_list", "rule_list"] []
  g_law_changed : mg "_law_changed" = some (.ref f_law_changed)
  f_law_compared : Addr
  d_law_compared : FuncData
  F_law_compared : Fun K "_law_compared" "_law_compared" s_law_compared f_law_compared d_law_compared
  b_law_compared : Binds K d_law_compared ["one", "two", "due"] []
  g_law_compared : mg "_law_compared" = some (.ref f_law_compared)
  f_law : Addr
  d_law : FuncData
  F_law : Fun K "law" "law" s_law f_law d_law
  b_law : Binds K d_law ["script"] []
  g_law : mg "law" = some (.ref f_law)
  m_all : mg "all" = none
  m_bool : mg "bool" = none
  m_int : mg "int" = none
  m_isinstance : mg "isinstance" = none
  m_len : mg "len" = none
  m_list : mg "list" = none
  m_range : mg "range" = none
  xa_Book : PySem.W.findIn K (.ref C_Book) "__class__" = some (some (.builtin "object.__class__"))
  xn_Book : PySem.W.specialIn K (.builtin "object.__class__") "__get__" = some (some (.builtin "getset_descriptor.__get__"))
  xt_Book : PySem.W.takesIn K (.builtin "object.__class__") = some true
  xm_Book : PySem.W.mroIn K C_Book (.type "object") = some true
  tc_Book : PySem.W.typeIn K (.ref C_Book) = some (.type "type")
  cm_Book : CmpC K C_Book
section
variable {P : Program} {w : World} {K : PySem.W.Frag} {mg : Str → Option Value} {base : Heap}
/-! ### the program's defs -/
def sp_isname : Sp := fun vs H Q _ => ∃ z, vs = [.str z] ∧ Nm z ∧ ∀ H', Same H H' → Q (.bl true) H'
theorem le_a (c : Nat) (h : 97 ≤ c) : (!decide ((#[c] : Array Nat).toList < (Str.ofString "a").cps.toList)) = true := by
  have : (Str.ofString "a").cps.toList = [97] := by decide +kernel
  rw [this]
  have : ¬ [c] < [97] := by
    intro z
    rcases List.cons_lt_cons_iff.mp z with h1 | ⟨_, h2⟩
    · omega
    · exact absurd h2 (List.not_lt_nil _)
  simpa using this
theorem ge_z (c : Nat) (h : c ≤ 122) : (!decide ((Str.ofString "z").cps.toList < (#[c] : Array Nat).toList)) = true := by
  have : (Str.ofString "z").cps.toList = [122] := by decide +kernel
  rw [this]
  have : ¬ [122] < [c] := by
    intro z
    rcases List.cons_lt_cons_iff.mp z with h1 | ⟨_, h2⟩
    · omega
    · exact absurd h2 (List.not_lt_nil _)
  simpa using this
theorem all_true (n : Nat) : (List.replicate n true).all id = true := by
  induction n with
  | zero => rfl
  | succ n ih => rw [List.replicate_succ, List.all_cons, ih]; rfl
theorem ok_is_name (T : Tx K w mg) : FnOk P w K mg base CX0 1 T.f_is_name T.d_is_name ["text"] sp_isname := by
  refine T.F_is_name.ok sc_is_name (fun vs H Q E h => ?_) (fun cdv A outer s H vs Q E hr h => ?_)
  · obtain ⟨z, rfl, _⟩ := h
    rfl
  · obtain ⟨z, rfl, hn, k⟩ := h
    refine ⟨_,
    (pss_one
      (ps_ret (pe_and (pe_chain op_le op_le pe_int (pe_callB call_len_str (by rfl) T.m_len (by decide +kernel) (pa_cons (pv 0) pa_nil)) (pe_glob (v := .int 8) (by rfl) T.v__LONGEST_NAME ⟨_, rfl⟩)) (pe_one (pe_callB (cr_all rfl) (by rfl) T.m_all (by decide +kernel) (pa_cons (pe_lc (own := [("sign", 1)]) (g := gName 1) rfl sc_is_name.nd (pi_str (pv 0)) (blkOk_by (N := ["text", "sign"]) (sc := defScope s_is_name) (own := [("sign", 1)]) (by decide +kernel)) (fun _ _ _ _ _ => (pg_name (i := 1) sc_is_name.nd rfl (.inl rfl))) (fun _ _ _ _ _ => pts_nil) (fun _ _ _ _ _ => (pe_chain op_le_str op_le_str pe_str (pv 1) pe_str))) pa_nil)))))), ?_⟩
    have few := hn.few
    have pos := hn.pos
    have line : z.length ≤ sizeLine := Nat.le_of_lt (small1000 (by omega))
    refine ⟨_, rfl, _, rfl, line, _, _, rfl, rfl, _, rfl, iteD (by omega) ⟨_, _, rfl, rfl, _, rfl, iteD (by omega) ?_⟩⟩
    refine ⟨_, rfl, z, rfl, fun D hD => ?_⟩
    refine lc_str (fun i H' => i ≤ z.length ∧ H' D = some (.lst ((List.replicate i true).map V.bl)) ∧ Same H H') ?_ ?_ ?_
    · exact ⟨Nat.zero_le _, upd_same, same_upd hD⟩
    · rintro i c H1 hc ⟨hi, eD, sm⟩
      have hm : c ∈ z.cps.toList := by
        have : z.cps.toList[i]? = some c := by simpa using hc
        exact List.mem_of_getElem? this
      have hil : i < z.length := by
        have : i < z.cps.size := by
          rcases Nat.lt_or_ge i z.cps.size with h | h
          · exact h
          · rw [Array.getElem?_eq_none h] at hc; cases hc
        exact this
      obtain ⟨l1, l2⟩ := hn.low c hm
      refine ⟨rfl, _, rfl, _, _, rfl, rfl, _, rfl, iteB (le_a c l1) ⟨_, _, rfl, rfl, (List.replicate i true).map V.bl, eD, ?_, hil, ?_, fun b o e => ?_⟩⟩
      · rw [List.length_map, List.length_replicate]; exact small1000 (by omega)
      · rw [upd_same, ge_z c l2, List.replicate_succ', List.map_append]; rfl
      · rw [upd_ne (ne_of_none e hD)]; exact sm b o e
    · rintro H1 ⟨_, eD, sm⟩
      refine ⟨D, List.replicate z.cps.size true, rfl, .of eD, ?_⟩
      rw [all_true]
      exact k H1 sm
def sp_check_tasks (K : PySem.W.Frag) : Sp := fun vs H Q _ => ∃ t ts, vs = [.ref t] ∧ SqL K H t (ts.map V.str) ∧ TasksOk ts ∧ ∀ H', Same H H' → Q .non H'
theorem not_before {ts : List Str} {i : Nat} {z : Str} (nd : ts.Nodup) (h : ts[i]? = some z) : z ∉ ts.take i := fun m => by
  obtain ⟨j, hj, e⟩ := List.mem_iff_getElem.mp m
  rw [List.length_take] at hj
  rw [List.getElem_take] at e
  obtain ⟨hi, e2⟩ := List.getElem?_eq_some_iff.mp h
  have := (List.getElem_inj nd).mp (e.trans e2.symm)
  omega
theorem seen_new {H H1 : Hp} {d : Addr} {o : HO} (hd : H d = none) (sm : Same H H1) : Same H (upd H1 d o) := fun b x e => by
  rw [upd_ne (ne_of_none e hd)]
  exact sm b x e
theorem ok_check_tasks (T : Tx K w mg) : FnOk P w K mg base CX0 2 T.f_check_tasks T.d_check_tasks ["tasks"] (sp_check_tasks K) := by
  refine T.F_check_tasks.ok sc_check_tasks (fun vs H Q E h => ?_) (fun cdv A outer s H vs Q E hr h => ?_)
  · obtain ⟨t, ts, rfl, _⟩ := h
    rfl
  · obtain ⟨t, ts, rfl, hT, ok, k⟩ := h
    refine ⟨_,
    (pss_cons
      (ps_if (pt_not (pt_truth (pv 0) (by intro _; rfl)))
        (pss_one
          ps_never)
        pss_nil)
    (pss_cons
      (ps_set (i := 1) sc_check_tasks.nd rfl (.inl rfl) pe_dnewK)
    (pss_one
      (ps_for PassesOwn.never rfl (pi_list (pv 0)) (pg_name (i := 2) sc_check_tasks.nd rfl (.inl rfl))
        (pss_cons
          (ps_if (pt_not (pt_val (pe_call (ok_is_name T) hr (by rfl) T.g_is_name T.F_is_name.kp T.b_is_name .nil pass0 (pa_cons (pv 2) pa_nil))))
            (pss_one
              ps_never)
            pss_nil)
        (pss_cons
          (ps_if (pt_cmp (pc_din (hu_of hr) (pv 2) (pv 1)))
            (pss_one
              ps_never)
            pss_nil)
        (pss_one
          (ps_dput (hu_of hr) (pv 1) (pv 2) pe_bl (by rfl))))))))), ?_⟩
    refine ⟨_, rfl, true, .inl ⟨_, hT, ?_⟩, fun d hd => ?_⟩
    · cases ts with
      | nil => exact absurd rfl ok.ne
      | cons a r => rfl
    have sd : Same H (upd H d (.dK [])) := same_upd hd
    refine ⟨_, rfl, t, rfl, ⟨_, sd.seq hT⟩, for_list (xs := ts.map V.str) (fun i σ H' => Same H H' ∧ (∃ kvs : List (Key × V), H' d = some (.dK kvs) ∧ kvs.length ≤ i ∧ ∀ z : Str, (valV kvs (.inr z)).isSome = decide (z ∈ ts.take i)) ∧ ∃ x, σ = [some (.ref t), some (.ref d), x]) ?_ ?_ ?_ ?_⟩
    · exact ⟨sd, ⟨[], upd_same, Nat.le_refl _, fun z => by simp [valV]⟩, none, rfl⟩
    · rintro i σ H' _ ⟨sm, _⟩
      exact sm.seq hT
    · rintro i v σ H1 hi ⟨sm, ⟨kvs, hk, hl, hv⟩, x, rfl⟩
      rw [List.getElem?_map] at hi
      obtain ⟨z, hz, rfl⟩ := Option.map_eq_some_iff.mp hi
      have nz := ok.nm z (List.mem_of_getElem? hz)
      have hit : i < ts.length := (List.getElem?_eq_some_iff.mp hz).1
      have few := ok.few
      refine ⟨_, rfl, z, rfl, nz, fun H2 s2 => ⟨_, rfl, ?_⟩⟩
      have hk2 := s2 _ _ hk
      refine ⟨_, rfl, _, rfl, d, _, rfl, DGet.k (k := .inr z) hk2, _, rfl, iteNB ?_ ?_⟩
      · rw [hv]; exact decide_eq_false (not_before ok.nd hz)
      · refine ⟨_, rfl, _, rfl, d, _, rfl, DPut.k (k := .inr z) hk2 (small1000 (by omega)), seen_new hd (sm.trans s2), ⟨_, upd_same, ?_, fun y => ?_⟩, _, rfl⟩
        · exact Nat.le_trans (length_putK _ _ _) (by omega)
        · rw [valV_put, List.take_add_one, hz]
          by_cases e : y = z
          · subst e
            simp
          · have e2 : ¬ (Sum.inr y : Key) = .inr z := fun q => e (Sum.inr.inj q)
            rw [if_neg e2, hv y]
            simp [e]
    · rintro σ H' ⟨sm, _⟩
      exact k H' sm
def sp_check_rule (K : PySem.W.Frag) : Sp := fun vs H Q _ => ∃ a t l ts, vs = [.ref a, .ref t] ∧ SqT K H a (l.map V.str) ∧ SqL K H t (ts.map V.str) ∧ RuleOk ts l ∧ ∀ H', Same H H' → Q .non H'
theorem kind_in {T : Tx K w mg} {k : Str} {n : Int} (h : (k ∈ two ∧ n = 1) ∨ (k ∈ six ∧ n = 2)) : ∃ t, PySem.W.nsIn K T.d__TASKS_IN k = some (some (.int n t)) := by
  rcases h with ⟨h, rfl⟩ | ⟨h, rfl⟩
  · simp only [two, List.mem_cons, List.not_mem_nil, or_false] at h
    rcases h with rfl | rfl
    · exact T.k__TASKS_IN_first
    · exact T.k__TASKS_IN_last
  · simp only [six, List.mem_cons, List.not_mem_nil, or_false] at h
    rcases h with rfl | rfl | rfl | rfl | rfl | rfl
    · exact T.k__TASKS_IN_before
    · exact T.k__TASKS_IN_upto
    · exact T.k__TASKS_IN_same
    · exact T.k__TASKS_IN_apart
    · exact T.k__TASKS_IN_far
    · exact T.k__TASKS_IN_next
theorem ok_check_rule (T : Tx K w mg) : FnOk P w K mg base CX0 1 T.f_check_rule T.d_check_rule ["rule", "tasks"] (sp_check_rule K) := by
  refine T.F_check_rule.ok sc_check_rule (fun vs H Q E h => ?_) (fun cdv A outer s H vs Q E hr h => ?_)
  · obtain ⟨a, t, l, ts, rfl, _⟩ := h
    rfl
  · obtain ⟨a, t, l, ts, rfl, hA, hT, ok, k⟩ := h
    have hl : ∃ kd r, l = kd :: r ∧ ((kd ∈ two ∧ r.length = 1) ∨ (kd ∈ six ∧ r.length = 2)) ∧ (∀ z ∈ r, z ∈ ts) ∧ (∀ x y, r = [x, y] → x ≠ y) := by
      rcases ok with ⟨kd, x, h1, h2, rfl⟩ | ⟨kd, x, y, h1, h2, h3, h4, rfl⟩
      · exact ⟨kd, [x], rfl, .inl ⟨h1, rfl⟩, fun z hz => by rw [List.mem_singleton.mp hz]; exact h2, fun x y e => by simp at e⟩
      · exact ⟨kd, [x, y], rfl, .inr ⟨h1, rfl⟩, fun z hz => by
          rcases List.mem_cons.mp hz with e | e
          · rw [e]; exact h2
          · rw [List.mem_singleton.mp e]; exact h3, fun u v e => by
          injection e with e1 e2
          injection e2 with e2 _
          rw [← e1, ← e2]; exact h4⟩
    obtain ⟨kd, r, rfl, hk, hin, hne⟩ := hl
    obtain ⟨tk, hd⟩ := kind_in (T := T) (k := kd) (n := r.length) (by rcases hk with ⟨h, e⟩ | ⟨h, e⟩; exact .inl ⟨h, by omega⟩; exact .inr ⟨h, by omega⟩)
    refine ⟨_,
    (pss_cons
      (ps_if (PW.pt (pw_or (pt_cmpR (op_notIn_kd T.kd__TASKS_IN) (pe_ix ix_tup (pv 0) pe_int (fun _ _ => rfl)) (pe_glob (v := .ref T.d__TASKS_IN) (by rfl) T.g__TASKS_IN rfl) (by rfl)) (pw_or1 (pt_cmpR op_ne (pe_callB call_len_seq (by rfl) T.m_len (by decide +kernel) (pa_cons (pv 0) pa_nil)) (pe_op op_add pe_int (pe_ix (ix_kd T.kd__TASKS_IN) (pe_glob (v := .ref T.d__TASKS_IN) (by rfl) T.g__TASKS_IN rfl) (pe_ix ix_tup (pv 0) pe_int (fun _ _ => rfl)) (fun _ _ => rfl))) (nomark _)))))
        (pss_one
          ps_never)
        pss_nil)
    (pss_cons
      (ps_for PassesOwn.never rfl (pi_tup (pe_slice sl_tup (pv 0) (po_some pe_int) po_none)) (pg_name (i := 2) sc_check_rule.nd rfl (.inl rfl))
        (pss_one
          (ps_if (pt_cmpR op_notIn_seq (pv 2) (pv 1) (by rfl))
            (pss_one
              ps_never)
            pss_nil)))
    (pss_one
      (ps_if (PW.pt (pw_and (pt_cmpR op_eq (pe_callB call_len_seq (by rfl) T.m_len (by decide +kernel) (pa_cons (pv 0) pa_nil)) pe_int (nomark _)) (pw_and1 (pt_cmpR op_eq (pe_ix ix_tup (pv 0) pe_int (fun _ _ => rfl)) (pe_ix ix_tup (pv 0) pe_int (fun _ _ => rfl)) (nomark _)))))
        (pss_one
          ps_never)
        pss_nil)))), ?_⟩
    refine ⟨_, rfl, a, _, _, _, rfl, rfl, hA, atI_nat (j := 0) rfl, _, _, rfl, rfl, hd, _, rfl, ?_⟩
    refine ⟨_, rfl, a, _, rfl, .inr hA, _, rfl, a, _, _, _, rfl, rfl, hA, atI_nat (j := 0) rfl, _, _, .int (r.length : Int), rfl, rfl, hd, ⟨_, rfl⟩, _, _, rfl, rfl, rfl, _, rfl, iteNS ?_ ?_⟩
    · show V.int (((kd :: r).map V.str).length : Int) = V.int (1 + (r.length : Int))
      rw [List.length_map, List.length_cons]
      congr 1
      omega
    refine ⟨_, rfl, _, rfl, a, _, rfl, hA, ?_, fun p hp => ⟨_, rfl, ⟨_, .of upd_same⟩, ?_⟩⟩
    · rintro ⟨h1, _⟩
      rw [show HT.sIx ((kd :: r).map V.str).length 0 (some 1) = min 1 ((kd :: r).map V.str).length from HT.sIx_nat _ _ 1, List.length_map, List.length_cons] at h1
      omega
    have ec : cutV ((kd :: r).map V.str) (some 1) none = r.map V.str := cut_drop _ 1
    rw [ec] at *
    refine for_tup (xs := r.map V.str) (fun i σ H' => Same (upd H p (.tup (r.map V.str))) H' ∧ ∃ x2, σ = [some (.ref a), some (.ref t), x2]) ?_ ?_ ?_ ?_
    · exact ⟨Same.refl _, none, rfl⟩
    · rintro i σ H' _ ⟨sm, _⟩
      exact .of (sm _ _ upd_same)
    · rintro i x σ H1 hi ⟨sm, x2, rfl⟩
      rw [List.getElem?_map] at hi
      obtain ⟨z, hz, rfl⟩ := Option.map_eq_some_iff.mp hi
      have s1 := (same_upd (o := .tup (r.map V.str)) hp).trans sm
      refine ⟨_, rfl, _, rfl, t, _, rfl, .inl (s1.seq hT), rfl, flat_strs _, _, rfl, iteNB ?_ ⟨sm, _, rfl⟩⟩
      show (!inV (V.str z) _) = false
      rw [inV_str, decide_eq_true (hin z (List.mem_of_getElem? hz))]
      rfl
    · rintro σ H1 ⟨sm, x2, rfl⟩
      have s1 := (same_upd (o := .tup (r.map V.str)) hp).trans sm
      have hA1 := Same.tup s1 hA
      refine ⟨_, rfl, a, _, rfl, .inr hA1, rfl, _, rfl, ?_⟩
      rcases hk with ⟨_, e⟩ | ⟨_, e⟩
      · refine iteND ?_ (k H1 s1)
        intro z
        have := V.int.inj z
        rw [List.length_map, List.length_cons] at this
        omega
      · match r, e with
        | [x, y], _ =>
          refine iteD rfl ⟨_, rfl, a, _, _, _, rfl, rfl, hA1, atI_nat (j := 1) rfl, _, rfl, a, _, _, _, rfl, rfl, hA1, atI_nat (j := 2) rfl, rfl, _, rfl, iteND ?_ (k H1 s1)⟩
          intro z
          exact hne x y rfl (V.str.inj z)
/-! ### a book in the heap -/
theorem kc : ¬ (("_tasks" : Str) = "_rules") := by decide +kernel
def fl (t r : Addr) : List (Str × V) := putF "_rules" (.ref r) (putF "_tasks" (.ref t) [])
theorem fl_t (t r : Addr) : (fl t r).lookup ("_tasks" : Str) = some (.ref t) := by
  unfold fl
  rw [lookup_putF, if_neg kc, lookup_putF, if_pos rfl]
theorem fl_r (t r : Addr) : (fl t r).lookup ("_rules" : Str) = some (.ref r) := by
  unfold fl
  rw [lookup_putF, if_pos rfl]
def sp_init (K : PySem.W.Frag) (C : Addr) : Sp := fun vs H Q _ => ∃ (x dx t r : Addr) (ts : List Str) (as : List Addr), vs = [.ref x, .ref t, .ref r] ∧ H x = some (.ins C dx []) ∧ SqL K H t (ts.map V.str) ∧ SqL K H r (as.map V.ref) ∧ TasksOk ts ∧
  (∀ a ∈ as, ∃ l : List Str, SqT K H a (l.map V.str) ∧ RuleOk ts l) ∧ ∀ p q H', H p = none → H q = none → H' x = some (.ins C dx (fl p q)) → H' p = some (.lst (ts.map V.str)) → H' q = some (.lst (as.map V.ref)) →
    (∀ b o, H b = some o → b ≠ x → H' b = some o) → Q .non H'
theorem ok_Book_init (T : Tx K w mg) : FnOk P w K mg base CX0 3 T.f_Book_init T.d_Book_init ["self", "tasks", "rules"] (sp_init K T.C_Book) := by
  refine T.F_Book_init.ok sc_Book_init (fun vs H Q E h => ?_) (fun cdv A outer s H vs Q E hr h => ?_)
  · obtain ⟨x, dx, t, r, ts, as, rfl, _⟩ := h
    rfl
  · obtain ⟨x, dx, t, r, ts, as, rfl, hx, hT, hR, ok, rok, k⟩ := h
    refine ⟨_,
    (pss_cons
      (ps_expr (pe_call (ok_check_tasks T) hr (by rfl) T.g_check_tasks T.F_check_tasks.kp T.b_check_tasks .nil pass0 (pa_cons (pv 1) pa_nil)))
    (pss_cons
      (ps_for PassesOwn.never rfl (pi_list (pv 2)) (pg_name (i := 3) sc_Book_init.nd rfl (.inl rfl))
        (pss_one
          (ps_expr (pe_call (ok_check_rule T) (hr.mono (by decide)) (by rfl) T.g_check_rule T.F_check_rule.kp T.b_check_rule .nil pass0 (pa_cons (pv 3) (pa_cons (pv 1) pa_nil))))))
    (pss_cons
      (ps_fld (pv 0) (pe_callTy call_list_of (by rfl) T.m_list (by decide +kernel) (pa_cons (pv 1) pa_nil)) rfl)
    (pss_one
      (ps_fld (pv 0) (pe_callTy call_list_of (by rfl) T.m_list (by decide +kernel) (pa_cons (pv 2) pa_nil)) rfl))))), ?_⟩
    refine ⟨_, rfl, t, ts, rfl, hT, ok, fun H1 s1 => ?_⟩
    refine ⟨_, rfl, r, rfl, ⟨_, s1.seq hR⟩, for_list (xs := as.map V.ref) (fun i σ H' => Same H H' ∧ ∃ x3, σ = [some (.ref x), some (.ref t), some (.ref r), x3]) ⟨s1, none, rfl⟩ (fun i σ H' _ h => h.1.seq hR) ?_ ?_⟩
    · rintro i v σ H2 hi ⟨sm, x3, rfl⟩
      rw [List.getElem?_map] at hi
      obtain ⟨a, ha, rfl⟩ := Option.map_eq_some_iff.mp hi
      obtain ⟨l, hl, lok⟩ := rok a (List.mem_of_getElem? ha)
      exact ⟨_, rfl, _, rfl, a, t, l, ts, rfl, Same.tup sm hl, sm.seq hT, lok, fun H3 s3 => ⟨sm.trans s3, _, rfl⟩⟩
    · rintro σ H2 ⟨sm, x3, rfl⟩
      refine ⟨_, rfl, t, _, rfl, .inl (sm.seq hT), fun p hp => ?_⟩
      have hx2 := sm _ _ hx
      have xp : x ≠ p := ne_of_none hx2 hp
      have s2 : Same H (upd H2 p (.lst (ts.map V.str))) := sm.trans (same_upd hp)
      have hx3 := s2 _ _ hx
      refine ⟨_, rfl, x, T.C_Book, dx, [], rfl, hx3, T.cl_Book, T.n_Book_tasks, (by show 0 < 1000; decide), ?_⟩
      have hR2 : SqL K (upd (upd H2 p (.lst (ts.map V.str))) x (.ins T.C_Book dx (putF "_tasks" (.ref p) []))) r (as.map V.ref) := by
        rcases s2.seq hR with (h | ⟨o, h⟩) | h
        · exact .inl (.inl (by rw [upd_ne (ne_of h hx3 (by intro z; cases z))]; exact h))
        · exact .inl (.inr ⟨o, by rw [upd_ne (ne_of h hx3 (by intro z; cases z))]; exact h⟩)
        · exact .inr h
      refine ⟨_, rfl, r, _, rfl, .inl hR2, fun q hq => ?_⟩
      have qx : x ≠ q := ne_of_none upd_same hq
      have qp : p ≠ q := ne_of_none (by rw [upd_ne xp.symm]; exact upd_same) hq
      refine ⟨_, rfl, x, T.C_Book, dx, _, rfl, (by rw [upd_ne qx]; exact upd_same), T.cl_Book, T.n_Book_rules, (by show 1 < 1000; decide), ?_⟩
      have hqH : H q = none := by
        rw [upd_ne qx.symm, upd_ne qp.symm] at hq
        exact sm.free hq
      refine k p q _ (sm.free hp) hqH upd_same ?_ ?_ fun b o e nb => ?_
      · rw [upd_ne xp.symm, upd_ne qp, upd_ne xp.symm, upd_same]
      · rw [upd_ne qx.symm, upd_same]
      · rw [upd_ne nb, upd_ne (ne_of_none e hqH), upd_ne nb]
        exact s2 b o e
/-- Book(rules = .., tasks = ..) -/
theorem kb_Book_init (T : Tx K w mg) : KBn K T.d_Book_init ["self", "tasks", "rules"] 1 ["rules", "tasks"] (fun us ws => us ++ ws.reverse) (fun vs zs => vs ++ zs.reverse) := by
  obtain ⟨oc, od, kV, doc, pm, an, cdv, ct, osl, e, _, _⟩ := T.F_Book_init.ex
  refine ⟨fun s us ws _ h1 h2 => ?_, fun r1 r2 => r1.append r2.reverse⟩
  rw [e]
  match us, ws, h1, h2 with
  | [_], [_, _], _, _ => exact BindsTo.of_eq rfl
def sp_get (K : PySem.W.Frag) (C : Addr) (f : Str) : Sp := fun vs H Q _ => ∃ b dx t r a xs, vs = [.ref b] ∧ H b = some (.ins C dx (fl t r)) ∧ (fl t r).lookup f = some (.ref a) ∧ SqL K H a xs ∧ ∀ p, H p = none → Q (.ref p) (upd H p (.lst xs))
theorem ok_Book_tasks (T : Tx K w mg) : FnOk P w K mg base CX0 1 T.f_Book_tasks T.d_Book_tasks ["self"] (sp_get K T.C_Book "_tasks") := by
  refine T.F_Book_tasks.ok sc_Book_tasks (fun vs H Q E h => ?_) (fun cdv A outer s H vs Q E hr h => ?_)
  · obtain ⟨b, dx, t, r, a, xs, rfl, _⟩ := h
    rfl
  · obtain ⟨b, dx, t, r, a, xs, rfl, hb, hf, ha, k⟩ := h
    refine ⟨_,
    (pss_one
      (ps_ret (pe_callTy call_list_of (by rfl) T.m_list (by decide +kernel) (pa_cons (pe_fld (pv 0) rfl) pa_nil)))), ?_⟩
    exact ⟨_, rfl, b, _, dx, _, _, rfl, hb, T.cl_Book, T.n_Book_tasks, hf, a, _, rfl, .inl ha, k⟩
theorem ok_Book_rules (T : Tx K w mg) : FnOk P w K mg base CX0 1 T.f_Book_rules T.d_Book_rules ["self"] (sp_get K T.C_Book "_rules") := by
  refine T.F_Book_rules.ok sc_Book_rules (fun vs H Q E h => ?_) (fun cdv A outer s H vs Q E hr h => ?_)
  · obtain ⟨b, dx, t, r, a, xs, rfl, _⟩ := h
    rfl
  · obtain ⟨b, dx, t, r, a, xs, rfl, hb, hf, ha, k⟩ := h
    refine ⟨_,
    (pss_one
      (ps_ret (pe_callTy call_list_of (by rfl) T.m_list (by decide +kernel) (pa_cons (pe_fld (pv 0) rfl) pa_nil)))), ?_⟩
    exact ⟨_, rfl, b, _, dx, _, _, rfl, hb, T.cl_Book, T.n_Book_rules, hf, a, _, rfl, .inl ha, k⟩
def sp_len (K : PySem.W.Frag) (C : Addr) : Sp := fun vs H Q _ => ∃ b dx t r xs, vs = [.ref b] ∧ H b = some (.ins C dx (fl t r)) ∧ SqL K H r xs ∧ Q (.int xs.length) H
theorem ok_Book_len (T : Tx K w mg) : FnOk P w K mg base CX0 1 T.f_Book_len T.d_Book_len ["self"] (sp_len K T.C_Book) := by
  refine T.F_Book_len.ok sc_Book_len (fun vs H Q E h => ?_) (fun cdv A outer s H vs Q E hr h => ?_)
  · obtain ⟨b, dx, t, r, xs, rfl, _⟩ := h
    rfl
  · obtain ⟨b, dx, t, r, xs, rfl, hb, hr', k⟩ := h
    refine ⟨_,
    (pss_one
      (ps_ret (pe_callB call_len_seq (by rfl) T.m_len (by decide +kernel) (pa_cons (pe_fld (pv 0) rfl) pa_nil)))), ?_⟩
    exact ⟨_, rfl, b, _, dx, _, _, rfl, hb, T.cl_Book, T.n_Book_rules, fl_r t r, r, _, rfl, .inl hr', k⟩
/-! ### the law's deck -/
def Deck (H : Hp) (d g : Addr) : Prop := ∃ (gs : List Int) (a m : Int), H d = some (.lst [.ref g, .int a, .int m]) ∧ H g = some (.lst (gs.map V.int)) ∧ gs.length ≤ 63 ∧ (∀ x ∈ gs, 0 ≤ x) ∧ 0 ≤ a ∧ 0 ≤ m ∧ m < 2147483648
theorem Deck.ne {H : Hp} {d g : Addr} (h : Deck H d g) : d ≠ g := by
  obtain ⟨gs, a, m, h1, h2, _⟩ := h
  intro e
  subst e
  rw [h1] at h2
  cases gs with
  | nil => cases h2
  | cons x r => injection h2 with h2; injection h2 with h2; injection h2 with h2; cases h2
/-- all but the deck is as it was -/
def Kd (d g : Addr) (H H' : Hp) : Prop := ∀ b o, H b = some o → b ≠ d → b ≠ g → H' b = some o
theorem Kd.refl {d g : Addr} (H : Hp) : Kd d g H H := fun _ _ h _ _ => h
theorem Kd.trans {d g : Addr} {H H1 H2 : Hp} (a : Kd d g H H1) (b : Kd d g H1 H2) : Kd d g H H2 := fun x o h n1 n2 => b x o (a x o h n1 n2) n1 n2
theorem Same.kd {d g : Addr} {H H' : Hp} (s : Same H H') : Kd d g H H' := fun b o h _ _ => s b o h
def sp_deck (K : PySem.W.Frag) : Sp := fun vs H Q _ => ∃ (a : Addr) (ns : List Int), vs = [.ref a] ∧ SqL K H a (ns.map V.int) ∧ ns.length ≤ 63 ∧ ∀ d g H', Same H H' → Deck H' d g → Q (.ref d) H'
theorem ok_law_deck (T : Tx K w mg) : FnOk P w K mg base CX0 1 T.f_law_deck T.d_law_deck ["script"] (sp_deck K) := by
  refine T.F_law_deck.ok sc_law_deck (fun vs H Q E h => ?_) (fun cdv A outer s H vs Q E hr h => ?_)
  · obtain ⟨a, ns, rfl, _⟩ := h
    rfl
  · obtain ⟨a, ns, rfl, hS, hl, k⟩ := h
    refine ⟨_,
    (pss_cons
      (ps_set (i := 1) sc_law_deck.nd rfl (.inl rfl) (pe_op op_add pe_int (pe_op op_mod (pe_callB call_len_seq (by rfl) T.m_len (by decide +kernel) (pa_cons (pv 0) pa_nil)) pe_int)))
    (pss_cons
      (ps_for PassesOwn.never rfl (pi_list (pv 0)) (pg_name (i := 2) sc_law_deck.nd rfl (.inl rfl))
        (pss_one
          (ps_set (i := 1) sc_law_deck.nd rfl (.inl rfl) (pe_op op_mod (pe_op op_add (pe_op op_add (pe_op op_mul (pv 1) pe_int) (pe_op op_mod (pe_callTy call_int1 (by rfl) T.m_int (by decide +kernel) (pa_cons (pv 2) pa_nil)) pe_int)) pe_int) pe_int))))
    (pss_cons
      (ps_setLc (i := 3) (own := [("cell", 2)]) (g := gName 2) rfl sc_law_deck.nd rfl rfl (sw_true rfl rfl rfl (by decide +kernel)) (pi_list (pv 0)) (blkOk_by (N := ["script", "mixed", "cell", "great"]) (sc := defScope s_law_deck) (own := [("cell", 2)]) (by decide +kernel)) (fun _ _ _ _ _ => (pg_name (i := 2) sc_law_deck.nd rfl (.inl rfl))) (fun _ _ _ _ _ => (pts_one (pt_cmpR op_ge (pv 2) (pe_op op_pow pe_int pe_int) (nomark _)))) (fun _ _ _ _ _ => (pe_op op_sub (pe_callTy call_int1 (by rfl) T.m_int (by decide +kernel) (pa_cons (pv 2) pa_nil)) (pe_op op_pow pe_int pe_int))))
    (pss_one
      (ps_ret (pe_lst (pa_cons (pe_revL (pv 3)) (pa_cons pe_int (pa_cons (pe_op op_add (pe_op op_mod (pv 1) pe_int) pe_int) pa_nil))))))))), ?_⟩
    refine ⟨_, rfl, a, _, rfl, .inl hS, _, _, rfl, rfl, (by show (0 : Int) < 1009; decide), _, _, rfl, rfl, ?_⟩
    have m0 : 0 ≤ 1 + ((ns.map V.int).length : Int) % 1009 := by omega
    have m1 : 1 + ((ns.map V.int).length : Int) % 1009 < 2147483648 := by omega
    refine ⟨_, rfl, a, rfl, ⟨_, hS⟩, for_list (xs := ns.map V.int) (fun i σ H' => H' = H ∧ ∃ m x2, 0 ≤ m ∧ m < 2147483648 ∧ σ = [some (.ref a), some (.int m), x2, none]) ⟨rfl, _, none, m0, m1, rfl⟩ (fun i σ H' _ h => by rw [h.1]; exact hS) ?_ ?_⟩
    · rintro i v σ H1 hi ⟨rfl, m, x2, m0, m1, rfl⟩
      rw [List.getElem?_map] at hi
      obtain ⟨c, _, rfl⟩ := Option.map_eq_some_iff.mp hi
      refine ⟨_, rfl, _, _, rfl, rfl, .inl ⟨by omega, by omega⟩, _, rfl, .inl ⟨_, rfl, _, _, rfl, rfl, (by show (0 : Int) < 2147483563; decide), _, _, rfl, rfl, _, _, rfl, rfl, _, _, rfl, rfl, (by show (0 : Int) < 2147483399; decide), rfl, _, _, Int.emod_nonneg _ (by decide), Int.lt_trans (Int.emod_lt_of_pos _ (by decide)) (by decide), rfl⟩⟩
    · rintro σ H1 ⟨rfl, m, x2, m0, m1, rfl⟩
      refine ⟨_, rfl, a, rfl, ⟨_, hS⟩, fun D hD => ?_⟩
      refine lc_list (xs := ns.map V.int) (fun i H' => ∃ gs : List Int, gs.length ≤ i ∧ (∀ x ∈ gs, 0 ≤ x) ∧ H' D = some (.lst (gs.map V.int)) ∧ Same H1 H') ?_ ?_ ?_ ?_
      · exact ⟨[], Nat.le_refl _, (fun _ h => absurd h List.not_mem_nil), upd_same, same_upd hD⟩
      · rintro i H' _ ⟨gs, _, _, _, sm⟩
        exact sm.seq hS
      · rintro i v H' hi ⟨gs, gl, g0, eD, sm⟩
        have hil := (List.getElem?_eq_some_iff.mp hi).1
        rw [List.length_map] at hil
        rw [List.getElem?_map] at hi
        obtain ⟨c, _, rfl⟩ := Option.map_eq_some_iff.mp hi
        refine ⟨rfl, _, rfl, _, _, rfl, rfl, ⟨by decide, by decide, by decide⟩, _, _, rfl, rfl, _, rfl, ite2 (fun h => ?_) (fun _ => ⟨gs, by omega, g0, eD, sm⟩)⟩
        have h1 : (10 : Int) ^ (18 : Int).toNat ≤ c := of_decide_eq_true h
        refine ⟨_, rfl, .inl ⟨_, rfl, _, _, rfl, rfl, ⟨by decide, by decide, by decide⟩, _, _, rfl, rfl, gs.map V.int, eD, ?_, gs ++ [c - (10 : Int) ^ (18 : Int).toNat], ?_, ?_, ?_, fun b o e => ?_⟩⟩
        · rw [List.length_map]; exact small1000 (by omega)
        · rw [List.length_append]; exact Nat.succ_le_succ gl
        · intro x hx
          rcases List.mem_append.mp hx with h | h
          · exact g0 x h
          · have := List.mem_singleton.mp h
            omega
        · rw [upd_same, List.map_append]; rfl
        · rw [upd_ne (ne_of_none e hD)]; exact sm b o e
      · rintro H2 ⟨gs, gl, g0, eD, sm⟩
        rw [List.length_map] at gl
        refine ⟨_, rfl, D, _, rfl, .of eD, fun g hg => ⟨_, rfl, _, _, rfl, rfl, (by show (0 : Int) < 2147483398; decide), _, _, rfl, rfl, (by show 3 ≤ sizeLine; decide), fun d hd => ?_⟩⟩
        refine k d g _ ((sm.trans (same_upd hg)).trans (same_upd hd)) ⟨gs.reverse, 0, m % 2147483398 + 1, upd_same, ?_, by rw [List.length_reverse]; omega, fun x hx => g0 x (List.mem_reverse.mp hx), by decide, by omega, by omega⟩
        rw [upd_ne (ne_of_none upd_same hd), upd_same, List.map_reverse]
def sp_draw : Sp := fun vs H Q _ => ∃ (d g : Addr) (n : Int), vs = [.ref d, .int n] ∧ Deck H d g ∧ 0 < n ∧ n.natAbs.log2 < 9000 ∧ ∀ r H', 0 ≤ r → r < n → Deck H' d g → Kd d g H H' → Q (.int r) H'
theorem small_log {m : Int} (h : m.natAbs < 1024) : m.natAbs.log2 < 9000 := by
  have h1 : m.natAbs.log2 < 10 := PySem.Flt.log2_lt_of (by decide) h
  omega
theorem ok_law_draw (T : Tx K w mg) : FnOk P w K mg base CX0 1 T.f_law_draw T.d_law_draw ["deck", "many"] sp_draw := by
  refine T.F_law_draw.ok sc_law_draw (fun vs H Q E h => ?_) (fun cdv A outer s H vs Q E hr h => ?_)
  · obtain ⟨d, g, n, rfl, _⟩ := h
    rfl
  · obtain ⟨d, g, n, rfl, hD, hn, hl, k⟩ := h
    refine ⟨_,
    (pss_cons
      (ps_while PassesOwn.never (PW.pt (pw_and (pt_cmpR op_lt (pe_ix ix_list (pv 0) pe_int (fun _ _ => rfl)) pe_int (nomark _)) (pw_and1 (pt_cmpR op_gt (pe_callB call_len_seq (by rfl) T.m_len (by decide +kernel) (pa_cons (pe_ix ix_list (pv 0) pe_int (fun _ _ => rfl)) pa_nil)) pe_int (nomark _)))))
        (pss_one
          (ps_asg (pe_bm0 PySem.F.plainAttrs_list PySem.F.slot_list_pop PySem.F.type_list_pop mt_pop (pe_ix ix_list (pv 0) pe_int (fun _ _ => rfl))) (pg_sub (pv 0) pe_int set_list))))
    (pss_cons
      (ps_if (pt_cmpR op_gt (pe_ix ix_list (pv 0) pe_int (fun _ _ => rfl)) pe_int (nomark _))
        (pss_cons
          (ps_set (i := 2) sc_law_draw.nd rfl (.inl rfl) (pe_op op_mod (pe_callTy call_int1 (by rfl) T.m_int (by decide +kernel) (pa_cons (pe_ix ix_list (pv 0) pe_int (fun _ _ => rfl)) pa_nil)) (pv 1)))
        (pss_cons
          (ps_asg (pe_op op_fdivW (pe_ix ix_list (pv 0) pe_int (fun _ _ => rfl)) (pv 1)) (pg_sub (pv 0) pe_int set_list))
        (pss_one
          (ps_ret (pv 2)))))
        pss_nil)
    (pss_cons
      (ps_asg (pe_op op_mod (pe_op op_mul (pe_ix ix_list (pv 0) pe_int (fun _ _ => rfl)) pe_int) pe_int) (pg_sub (pv 0) pe_int set_list))
    (pss_one
      (ps_ret (pe_op op_mod (pe_op op_fdiv (pe_op op_add (pe_op op_mod (pe_op op_mul (pe_ix ix_list (pv 0) pe_int (fun _ _ => rfl)) (pe_ix ix_list (pv 0) pe_int (fun _ _ => rfl))) pe_int) (pe_op op_fdiv (pe_ix ix_list (pv 0) pe_int (fun _ _ => rfl)) pe_int)) pe_int) (pv 1))))))), ?_⟩
    have dg := hD.ne
    obtain ⟨gs, a, m, hd, hg, gl, g0, a0, m0, m1⟩ := hD
    refine ⟨fun t σ H' => ∃ (gs : List Int) (a : Int), gs.length = t ∧ σ = [some (.ref d), some (.int n), none] ∧ H' d = some (.lst [.ref g, .int a, .int m]) ∧ H' g = some (.lst (gs.map V.int)) ∧ gs.length ≤ 63 ∧ (∀ x ∈ gs, 0 ≤ x) ∧ 0 ≤ a ∧ Kd d g H H',
      ⟨_, gs, a, rfl, rfl, hd, hg, gl, g0, a0, Kd.refl H⟩, ?_⟩
    clear hd hg gl g0 a0 gs a
    rintro t σ H1 ⟨gs, a, tl, rfl, hd, hg, gl, g0, a0, kd⟩
    refine ⟨_, rfl, d, _, _, _, rfl, rfl, .of hd, atI_nat (j := 1) rfl, _, _, rfl, rfl, _, rfl, ite2 (fun c1 => ?_) (fun c1 => ?_)⟩
    · refine ⟨_, rfl, d, _, _, _, rfl, rfl, .of hd, atI_nat (j := 0) rfl, g, _, rfl, .inl (.of hg), _, _, rfl, rfl, _, rfl, ite2 (fun c2 => ?_) (fun c2 => ?_)⟩
      · have c3 : 0 < gs.length := by
          have : (0 : Int) < ((gs.map V.int).length : Int) := of_decide_eq_true c2
          rw [List.length_map] at this
          omega
        have hz : gs[gs.length - 1]? = some gs[gs.length - 1] := List.getElem?_eq_getElem (by omega)
        have hm := List.mem_of_getElem? hz
        generalize gs[gs.length - 1] = z at hz hm
        refine ⟨fun σ' H' => ∃ (gs : List Int) (a : Int), gs.length < t ∧ σ' = [some (.ref d), some (.int n), none] ∧ H' d = some (.lst [.ref g, .int a, .int m]) ∧ H' g = some (.lst (gs.map V.int)) ∧ gs.length ≤ 63 ∧ (∀ x ∈ gs, 0 ≤ x) ∧ 0 ≤ a ∧ Kd d g H H',
          fun σ' H' ⟨gs, a, h1, h2⟩ => ⟨_, h1, gs, a, rfl, h2⟩, ?_⟩
        refine ⟨_, rfl, d, _, _, _, rfl, rfl, .of hd, atI_nat (j := 0) rfl, .inl ⟨rfl, _, .of hg⟩, g, gs.map V.int, V.int z, rfl, rfl, hg, ?_, _, rfl, d, [.ref g, .int a, .int m], _, 1, rfl, rfl, ?_, rfl, gs.dropLast, z, ?_, rfl, ?_, ?_, ?_, ?_, g0 z hm, fun b o e n1 n2 => ?_⟩
        · rw [List.length_map, List.getElem?_map, hz]; rfl
        · rw [upd_ne dg]; exact hd
        · rw [List.length_dropLast]; omega
        · rw [upd_same]; rfl
        · rw [upd_ne dg.symm, upd_same, List.map_dropLast]
        · rw [List.length_dropLast]; omega
        · exact fun x hx => g0 x (List.dropLast_subset gs hx)
        · rw [upd_ne n1, upd_ne n2]; exact kd b o e n1 n2
      · refine ⟨_, rfl, d, _, _, _, rfl, rfl, .of hd, atI_nat (j := 1) rfl, _, _, rfl, rfl, _, rfl, iteND (by have : a < 2 := of_decide_eq_true c1; omega) ?_⟩
        have bm : -(2 ^ 64) < m ∧ m < 2 ^ 64 := ⟨by omega, by omega⟩
        have b0 : 0 ≤ m * 48271 % 2147483647 := Int.emod_nonneg _ (by decide)
        have b1 : m * 48271 % 2147483647 < 2147483647 := Int.emod_lt_of_pos _ (by decide)
        have bn : -(2 ^ 64) < m * 48271 % 2147483647 ∧ m * 48271 % 2147483647 < 2 ^ 64 := ⟨by omega, by omega⟩
        refine ⟨_, rfl, d, _, _, _, rfl, rfl, .of hd, atI_nat (j := 2) rfl, _, _, rfl, rfl, .inl bm, _, _, rfl, rfl, (by show (0 : Int) < 2147483647; decide), _, rfl, d, [.ref g, .int a, .int m], _, 2, rfl, rfl, hd, rfl, ?_⟩
        have e2 : (upd H1 d (.lst ([V.ref g, V.int a, V.int m].set 2 (V.int (m * 48271 % 2147483647))))) d = some (.lst [V.ref g, V.int a, V.int (m * 48271 % 2147483647)]) := upd_same
        refine ⟨_, rfl, d, _, _, _, rfl, rfl, .of e2, atI_nat (j := 2) rfl, _, rfl, d, _, _, _, rfl, rfl, .of e2, atI_nat (j := 2) rfl, _, _, rfl, rfl, .inl bn, _, _, rfl, rfl, (by show (0 : Int) < 2147483629; decide), _, rfl, d, _, _, _, rfl, rfl, .of e2, atI_nat (j := 2) rfl, _, _, rfl, rfl, ⟨by decide, by decide⟩, _, _, rfl, rfl, _, _, rfl, rfl, ⟨by decide, by decide⟩, _, rfl, _, _, rfl, rfl, hn, ?_⟩
        refine k _ _ (Int.emod_nonneg _ (by omega)) (Int.emod_lt_of_pos _ hn) ⟨gs, a, m * 48271 % 2147483647, e2, ?_, gl, g0, a0, b0, by omega⟩ fun b o e n1 n2 => ?_
        · rw [upd_ne dg.symm]; exact hg
        · rw [upd_ne n1]; exact kd b o e n1 n2
    · have c2 : ¬ a < 2 := fun z => c1 (decide_eq_true z)
      refine ⟨_, rfl, d, _, _, _, rfl, rfl, .of hd, atI_nat (j := 1) rfl, _, _, rfl, rfl, _, rfl, iteD (by omega) ?_⟩
      refine ⟨_, rfl, d, _, _, _, rfl, rfl, .of hd, atI_nat (j := 1) rfl, .inl ⟨_, rfl, _, rfl, _, _, rfl, rfl, hn, ?_⟩⟩
      refine ⟨_, rfl, d, _, _, _, rfl, rfl, .of hd, atI_nat (j := 1) rfl, _, rfl, _, _, rfl, rfl, ⟨hn, hl⟩, _, rfl, d, [.ref g, .int a, .int m], _, 1, rfl, rfl, hd, rfl, ?_⟩
      refine ⟨_, rfl, k _ _ (Int.emod_nonneg _ (by omega)) (Int.emod_lt_of_pos _ hn) ⟨gs, a / n, m, upd_same, ?_, gl, g0, Int.ediv_nonneg a0 (by omega), m0, m1⟩ fun b o e n1 n2 => ?_⟩
      · rw [upd_ne dg.symm]; exact hg
      · rw [upd_ne n1]; exact kd b o e n1 n2
/-! ### names -/
theorem Deck.same {H H' : Hp} {d g : Addr} (s : Same H H') (h : Deck H d g) : Deck H' d g := by
  obtain ⟨gs, a, m, h1, h2, h3⟩ := h
  exact ⟨gs, a, m, s _ _ h1, s _ _ h2, h3⟩
theorem Deck.at {H : Hp} {d g : Addr} (h : Deck H d g) : (∃ o, H d = some o) ∧ ∃ o, H g = some o := by
  obtain ⟨gs, a, m, h1, h2, h3⟩ := h
  exact ⟨⟨_, h1⟩, _, h2⟩
theorem Deck.new {H : Hp} {d g p : Addr} (h : Deck H d g) (hp : H p = none) : p ≠ d ∧ p ≠ g := by
  obtain ⟨⟨o, h1⟩, u, h2⟩ := h.at
  exact ⟨(ne_of_none h1 hp).symm, (ne_of_none h2 hp).symm⟩
theorem Kd.free {d g p : Addr} {H H' : Hp} (k : Kd d g H H') (h : H' p = none) (n1 : p ≠ d) (n2 : p ≠ g) : H p = none := by
  cases q : H p with
  | none => rfl
  | some o =>
    rw [k p o q n1 n2] at h
    cases h
def ltr : Str := "abcdefghijklmnopqrstuvwxyz"
theorem ltr_l : ltr.cps.toList = [97, 98, 99, 100, 101, 102, 103, 104, 105, 106, 107, 108, 109, 110, 111, 112, 113, 114, 115, 116, 117, 118, 119, 120, 121, 122] := by decide +kernel
theorem ltr_at : ∀ r : Nat, r < 26 → ltr.cps.toList[r]? = some (97 + r) := by
  rw [ltr_l]
  decide
theorem ltr_len : ltr.length ≤ sizeLine := by
  rw [len_l, ltr_l]
  show 26 ≤ sizeLine
  decide
def wrd : List Str := ["before", "upto", "same", "apart", "far", "next", "first", "last"]
theorem wrd_nm : ∀ z ∈ wrd, Nm z := by
  have h : ∀ z ∈ wrd, 1 ≤ z.length ∧ z.length ≤ 8 ∧ ∀ c ∈ z.cps.toList, 97 ≤ c ∧ c ≤ 122 := by decide +kernel
  exact fun z hz => ⟨(h z hz).1, (h z hz).2.1, (h z hz).2.2⟩
def one (c : Nat) : Str := ⟨#[c]⟩
theorem l_app (x y : Str) : (x ++ y).cps.toList = x.cps.toList ++ y.cps.toList := TL.tl_append x y
theorem l_cutT (z : Str) (i : Nat) : (cutS z none (some (i : Int))).cps.toList = z.cps.toList.take i := by
  show (z.cps.toList.drop 0).take (HT.sIx z.length z.length (some (i : Int)) - 0) = _
  rw [show HT.sIx z.length z.length (some (i : Int)) = min i z.length from HT.sIx_nat _ _ i, List.drop_zero, Nat.sub_zero, len_l]
  by_cases h : i ≤ z.cps.toList.length
  · rw [Nat.min_eq_left h]
  · rw [Nat.min_eq_right (by omega), List.take_of_length_le (Nat.le_refl _), List.take_of_length_le (by omega)]
theorem l_cutD (z : Str) (i : Nat) : (cutS z (some (i : Int)) none).cps.toList = z.cps.toList.drop i := by
  show (z.cps.toList.drop (HT.sIx z.length 0 (some (i : Int)))).take (z.length - HT.sIx z.length 0 (some (i : Int))) = _
  rw [show HT.sIx z.length 0 (some (i : Int)) = min i z.length from HT.sIx_nat _ _ i, len_l]
  by_cases h : i ≤ z.cps.toList.length
  · rw [Nat.min_eq_left h]
    exact List.take_of_length_le (by rw [List.length_drop]; exact Nat.le_refl _)
  · rw [Nat.min_eq_right (by omega), Nat.sub_self, List.take_zero, List.drop_eq_nil_of_le (by omega)]
theorem joinL_one : ∀ cs : List Nat, TL.joinL [] (cs.map fun c => [c]) = cs
  | [] => rfl
  | [_] => rfl
  | a :: b :: r => by
    have ih := joinL_one (b :: r)
    show [a] ++ ([] ++ TL.joinL [] ((b :: r).map fun c => [c])) = a :: b :: r
    rw [ih]
    rfl
theorem l_join (cs : List Nat) : (Txt.join ("" : Str) (cs.map one)).cps.toList = cs := by
  rw [TL.join_eq]
  show TL.tl _ = _
  rw [TL.tl_join, List.map_map]
  exact joinL_one cs
theorem join_room (cs : List Nat) (h : cs.length ≤ 1000) : ((cs.map one).map (·.length)).sum + (cs.map one).length * ("" : Str).length ≤ 16777216 := by
  have e : ((cs.map one).map (·.length)).sum = cs.length := by
    clear h
    induction cs with
    | nil => rfl
    | cons a r ih =>
      rw [List.map_cons, List.map_cons, List.sum_cons, ih, List.length_cons]
      show 1 + r.length = _
      omega
  rw [e, show ("" : Str).length = 0 from by decide +kernel]
  omega
theorem nodup_le : ∀ {l m : List Str}, l.Nodup → (∀ x ∈ l, x ∈ m) → l.length ≤ m.length
  | [], _, _, _ => Nat.zero_le _
  | a :: r, m, nd, h => by
    have ha := h a List.mem_cons_self
    have nd2 := List.nodup_cons.mp nd
    have ih := nodup_le (l := r) (m := m.erase a) nd2.2 fun x hx => (List.mem_erase_of_ne (fun e : x = a => nd2.1 (e ▸ hx))).mpr (h x (List.mem_cons_of_mem _ hx))
    rw [List.length_erase_of_mem ha] at ih
    have := List.length_pos_of_mem ha
    rw [List.length_cons]
    omega
theorem ltr_free {ts : List Str} (h : ts.length < 26) : ∃ c r, ltr.cps.toList.filter (fun c => decide (one c ∉ ts)) = c :: r := by
  cases e : ltr.cps.toList.filter (fun c => decide (one c ∉ ts)) with
  | cons c r => exact ⟨c, r, rfl⟩
  | nil =>
    exfalso
    have h1 : ∀ x ∈ ltr.cps.toList.map one, x ∈ ts := fun x hx => by
      obtain ⟨c, hc, rfl⟩ := List.mem_map.mp hx
      have := List.filter_eq_nil_iff.mp e c hc
      simpa using this
    have h2 : (ltr.cps.toList.map one).Nodup := by
      rw [ltr_l]
      decide +kernel
    have := nodup_le h2 h1
    rw [List.length_map, ltr_l] at this
    have h3 : 26 ≤ ts.length := this
    omega
theorem nm_one {c : Nat} (h1 : 97 ≤ c) (h2 : c ≤ 122) : Nm (one c) := ⟨by show 1 ≤ 1; decide, by show 1 ≤ 8; decide, fun x hx => by
  have : x = c := by simpa [one] using hx
  omega⟩
/-- [letters[draw(26)] for .. in range(n)]: the deck in slot 0, the letters in slot 2, the comprehension's own name in slot j -/
theorem lc_letters {σ : L2.St} {H : Hp} {j : Nat} {d g D : Addr} {n : Nat} {Qd : Hp → Prop} (hn : n ≤ 1000) (s0 : σ[0]? = some (some (.ref d))) (s2 : σ[2]? = some (some (.str ltr))) (j0 : j ≠ 0) (j2 : j ≠ 2) (hD : Deck H d g) (nD : H D = none)
    (q : ∀ (H' : Hp) (cs : List Nat), Deck H' d g → Kd d g H H' → H' D = some (.lst ((cs.map one).map V.str)) → cs.length = n → (∀ c ∈ cs, 97 ≤ c ∧ c ≤ 122) → Qd H') :
    ∃ W : Nat → Nat → Hp → Prop, (∃ m, W 0 m (upd H D (.lst []))) ∧ ∀ i m H, W i m H →
      ((Itr 0 n).stop i H ∧ Qd H) ∨ ((Itr 0 n).go i H ∧ ∃ Nx : Hp → Prop, (∀ H', Nx H' → ∃ m', m' < m ∧ W (i + 1) m' H') ∧ ∀ x H', (Itr 0 n).yld i H x H' → gName j x (wipe σ [j]) H' fun σ2 H2 => wipe σ2 [j] = wipe σ [j] ∧ tYes σ2 H2 fun b H3 =>
        if b = true then (tOp rIxS (tVar 2) (tCall sp_draw [] E0 (tCons (tVar 0) (tCons (tC (.int 26)) tNil)))) σ2 H3 fun y H4 => ∃ acc, H4 D = some (.lst acc) ∧ acc.length < sizeLine ∧ Nx (upd H4 D (.lst (acc ++ [y]))) else Nx H3) := by
  have nD2 := hD.new nD
  refine lc_range (lo := 0) (n := n) (fun i H' => ∃ cs : List Nat, Deck H' d g ∧ Kd d g H H' ∧ H' D = some (.lst ((cs.map one).map V.str)) ∧ cs.length = i ∧ ∀ c ∈ cs, 97 ≤ c ∧ c ≤ 122) ?_ ?_ ?_
  · exact ⟨[], hD.same (same_upd nD), Same.kd (same_upd nD), upd_same, rfl, fun _ h => absurd h List.not_mem_nil⟩
  · rintro i H1 hi ⟨cs, hD1, k1, eD, hl, low⟩
    have w : wipe ((wipe σ [j]).set j (some (.int (0 + (i : Int))))) [j] = wipe σ [j] := by
      show (((σ.set j none).set j (some (.int (0 + (i : Int))))).set j none) = σ.set j none
      rw [List.set_set, List.set_set]
    have t0 : ((wipe σ [j]).set j (some (.int (0 + (i : Int)))))[0]? = some (some (.ref d)) := by
      show ((σ.set j none).set j _)[0]? = _
      rw [List.getElem?_set_ne j0, List.getElem?_set_ne j0]
      exact s0
    have t2 : ((wipe σ [j]).set j (some (.int (0 + (i : Int)))))[2]? = some (some (.str ltr)) := by
      show ((σ.set j none).set j _)[2]? = _
      rw [List.getElem?_set_ne j2, List.getElem?_set_ne j2]
      exact s2
    refine ⟨w, _, t2, _, t0, d, g, 26, rfl, hD1, by decide, by decide +kernel, fun r H2 r0 r1 hD2 k2 => ?_⟩
    obtain ⟨m, rfl⟩ := Int.eq_ofNat_of_zero_le r0
    refine ⟨ltr, m, 97 + m, rfl, rfl, ltr_len, atI_nat (ltr_at m (by omega)), (cs.map one).map V.str, k2 _ _ eD nD2.1 nD2.2, ?_, cs ++ [97 + m], ?_, ?_, ?_, ?_, ?_⟩
    · rw [List.length_map, List.length_map]; exact small1000 (by omega)
    · obtain ⟨gs, a, mm, h1, h2, h3⟩ := hD2
      exact ⟨gs, a, mm, by rw [upd_ne nD2.1.symm]; exact h1, by rw [upd_ne nD2.2.symm]; exact h2, h3⟩
    · intro b o e n1 n2
      rw [upd_ne (ne_of_none e nD)]
      exact k2 b o (k1 b o e n1 n2) n1 n2
    · rw [upd_same, List.map_append, List.map_append]; rfl
    · rw [List.length_append, hl]; rfl
    · intro c hc
      rcases List.mem_append.mp hc with h | h
      · exact low c h
      · have := List.mem_singleton.mp h
        omega
  · rintro H1 ⟨cs, hD1, k1, eD, hl, low⟩
    exact q H1 cs hD1 k1 eD hl low
/-- what stands while names are found -/
structure NSt (H0 H' : Hp) (d g F W : Addr) (ts : List Str) : Prop where
  dk : Deck H' d g
  kd : Kd d g H0 H'
  eF : H' F = some (.lst (ts.map V.str))
  eW : H' W = some (.lst (wrd.map V.str))
  fF : H0 F = none
  nF : F ≠ d ∧ F ≠ g
  nW : W ≠ d ∧ W ≠ g
theorem NSt.draw {H0 H1 H2 : Hp} {d g F W : Addr} {ts : List Str} (n : NSt H0 H1 d g F W ts) (h : Deck H2 d g) (k : Kd d g H1 H2) : NSt H0 H2 d g F W ts :=
  ⟨h, n.kd.trans k, k _ _ n.eF n.nF.1 n.nF.2, k _ _ n.eW n.nW.1 n.nW.2, n.fF, n.nF, n.nW⟩
theorem nm_mid {st : Str} {a r : Nat} (low : Low st) (hl : st.length ≤ 7) (ha : a ≤ st.length) (hr : r < 26) : Nm ((cutS st none (some (a : Int)) ++ one (97 + r)) ++ cutS st (some (a : Int)) none) := by
  have e : ((cutS st none (some (a : Int)) ++ one (97 + r)) ++ cutS st (some (a : Int)) none).cps.toList = (st.cps.toList.take a ++ [97 + r]) ++ st.cps.toList.drop a := by
    rw [l_app, l_app, l_cutT, l_cutD]
    rfl
  rw [len_l] at hl ha
  refine ⟨?_, ?_, fun c hc => ?_⟩
  · rw [len_l, e, List.length_append, List.length_append, List.length_take, List.length_drop, List.length_singleton]; omega
  · rw [len_l, e, List.length_append, List.length_append, List.length_take, List.length_drop, List.length_singleton]; omega
  · rw [e] at hc
    rcases List.mem_append.mp hc with h | h
    · rcases List.mem_append.mp h with h | h
      · exact low c (List.mem_of_mem_take h)
      · have := List.mem_singleton.mp h
        omega
    · exact low c (List.mem_of_mem_drop h)
theorem nm_q {st : Str} {a : Nat} (low : Low st) (hl : st.length ≤ 7) (ha : a ≤ st.length) : Nm (cutS (st ++ ("q" : Str)) none (some (1 + (a : Int)))) := by
  have e : (cutS (st ++ ("q" : Str)) none (some (1 + (a : Int)))).cps.toList = (st.cps.toList ++ [113]).take (1 + a) := by
    have h := l_cutT (st ++ ("q" : Str)) (1 + a)
    rw [show ((1 + a : Nat) : Int) = 1 + (a : Int) by omega] at h
    rw [h, l_app, show ("q" : Str).cps.toList = [113] by decide +kernel]
  rw [len_l] at hl ha
  refine ⟨?_, ?_, fun c hc => ?_⟩
  · rw [len_l, e, List.length_take, List.length_append, List.length_singleton]; omega
  · rw [len_l, e, List.length_take, List.length_append, List.length_singleton]; omega
  · rw [e] at hc
    rcases List.mem_append.mp (List.mem_of_mem_take hc) with h | h
    · exact low c h
    · have := List.mem_singleton.mp h
      omega
theorem str_line {n : Nat} (h : n ≤ 1000) : n ≤ sizeLine := Nat.le_of_lt (small1000 h)
def sp_names : Sp := fun vs H Q _ => ∃ (d g : Addr) (n : Nat), vs = [.ref d, .int n] ∧ Deck H d g ∧ 0 < n ∧ n ≤ 12 ∧
  ∀ (p : Addr) (ts : List Str) (H' : Hp), Deck H' d g → Kd d g H H' → H p = none → H' p = some (.lst (ts.map V.str)) → p ≠ d → p ≠ g → ts.length = n → (∀ z ∈ ts, Nm z) → ts.Nodup → Q (.ref p) H'
theorem ok_law_names (T : Tx K w mg) : FnOk P w K mg base CX0 2 T.f_law_names T.d_law_names ["deck", "many"] sp_names := by
  refine T.F_law_names.ok sc_law_names (fun vs H Q E h => ?_) (fun cdv A outer s H vs Q E hr h => ?_)
  · obtain ⟨d, g, n, rfl, _⟩ := h
    rfl
  · obtain ⟨d, g, n, rfl, hD, hn, hl, k⟩ := h
    refine ⟨_,
    (pss_cons
      (ps_set (i := 2) sc_law_names.nd rfl (.inr rfl) pe_str)
    (pss_cons
      (ps_set (i := 3) sc_law_names.nd rfl (.inl rfl) (pe_lst (pa_cons pe_str (pa_cons pe_str (pa_cons pe_str (pa_cons pe_str (pa_cons pe_str (pa_cons pe_str (pa_cons pe_str (pa_cons pe_str pa_nil))))))))))
    (pss_cons
      (ps_set (i := 4) sc_law_names.nd rfl (.inl rfl) (pe_call (ok_law_draw T) hr (by rfl) T.g_law_draw T.F_law_draw.kp T.b_law_draw .nil pass0 (pa_cons (pv 0) (pa_cons pe_int pa_nil))))
    (pss_cons
      (ps_set (i := 5) sc_law_names.nd rfl (.inl rfl) (pe_join pe_str (pe_lc (own := [("k", 7)]) (g := gName 7) rfl sc_law_names.nd (pi_range1 (by rfl) T.m_range (pa_cons (pe_call (ok_law_draw T) hr (by rfl) T.g_law_draw T.F_law_draw.kp T.b_law_draw .nil pass0 (pa_cons (pv 0) (pa_cons pe_int pa_nil))) pa_nil)) (blkOk_by (N := ["deck", "many", "letters", "words", "way", "stem", "found", "k", "at", "name", "m", "one"]) (sc := defScope s_law_names) (own := [("k", 7)]) (by decide +kernel)) (fun _ _ _ _ _ => (pg_name (i := 7) sc_law_names.nd rfl (.inl rfl))) (fun _ _ _ _ _ => pts_nil) (fun _ _ _ _ _ => (pe_ix ix_str (pv 2) (pe_call (ok_law_draw T) hr (by rfl) T.g_law_draw T.F_law_draw.kp T.b_law_draw .nil pass0 (pa_cons (pv 0) (pa_cons pe_int pa_nil))) (fun _ _ => rfl))))))
    (pss_cons
      (ps_set (i := 6) sc_law_names.nd rfl (.inr rfl) (pe_lst pa_nil))
    (pss_cons
      (ps_for PassesOwn.never rfl (pi_range1 (by rfl) T.m_range (pa_cons (pv 1) pa_nil)) (pg_name (i := 7) sc_law_names.nd rfl (.inl rfl))
        (pss_cons
          (ps_set (i := 8) sc_law_names.nd rfl (.inl rfl) (pe_call (ok_law_draw T) hr (by rfl) T.g_law_draw T.F_law_draw.kp T.b_law_draw .nil pass0 (pa_cons (pv 0) (pa_cons (pe_op op_add (pe_callB call_len_str (by rfl) T.m_len (by decide +kernel) (pa_cons (pv 5) pa_nil)) pe_int) pa_nil))))
        (pss_cons
          (ps_set (i := 9) sc_law_names.nd rfl (.inl rfl) (pe_op op_add_str (pe_op op_add_str (pe_slice sl_str (pv 5) po_none (po_some (pv 8))) (pe_ix ix_str (pv 2) (pe_call (ok_law_draw T) hr (by rfl) T.g_law_draw T.F_law_draw.kp T.b_law_draw .nil pass0 (pa_cons (pv 0) (pa_cons pe_int pa_nil))) (fun _ _ => rfl))) (pe_slice sl_str (pv 5) (po_some (pv 8)) po_none)))
        (C8.pss_cut
          (ps_if (pt_cmpR op_eq (pv 4) pe_int (nomark _))
            (pss_one
              (ps_set (i := 9) sc_law_names.nd rfl (.inl rfl) (pe_slice sl_str (pe_op op_add_str (pv 5) pe_str) po_none (po_some (pe_op op_add pe_int (pv 8))))))
            pss_nil)
        (C8.pss_cut
          (ps_if (pt_cmpR op_eq (pv 4) pe_int (nomark _))
            (pss_one
              (ps_set (i := 9) sc_law_names.nd rfl (.inl rfl) (pe_ix ix_list (pv 3) (pe_call (ok_law_draw T) hr (by rfl) T.g_law_draw T.F_law_draw.kp T.b_law_draw .nil pass0 (pa_cons (pv 0) (pa_cons pe_int pa_nil))) (fun _ _ => rfl))))
            pss_nil)
        (C8.pss_cut
          (ps_if (pt_cmpR op_eq (pv 4) pe_int (nomark _))
            (pss_one
              (ps_set (i := 9) sc_law_names.nd rfl (.inl rfl) (pe_join pe_str (pe_lc (own := [("m", 10)]) (g := gName 10) rfl sc_law_names.nd (pi_range1 (by rfl) T.m_range (pa_cons (pe_op op_add pe_int (pe_call (ok_law_draw T) hr (by rfl) T.g_law_draw T.F_law_draw.kp T.b_law_draw .nil pass0 (pa_cons (pv 0) (pa_cons pe_int pa_nil)))) pa_nil)) (blkOk_by (N := ["deck", "many", "letters", "words", "way", "stem", "found", "k", "at", "name", "m", "one"]) (sc := defScope s_law_names) (own := [("m", 10)]) (by decide +kernel)) (fun _ _ _ _ _ => (pg_name (i := 10) sc_law_names.nd rfl (.inl rfl))) (fun _ _ _ _ _ => pts_nil) (fun _ _ _ _ _ => (pe_ix ix_str (pv 2) (pe_call (ok_law_draw T) hr (by rfl) T.g_law_draw T.F_law_draw.kp T.b_law_draw .nil pass0 (pa_cons (pv 0) (pa_cons pe_int pa_nil))) (fun _ _ => rfl)))))))
            pss_nil)
        (C8.pss_cut
          (ps_if (pt_cmpR op_in_seq (pv 9) (pv 6) (by rfl))
            (pss_one
              (ps_set (i := 9) sc_law_names.nd rfl (.inl rfl) (pe_ix ix_list (pe_lc (own := [("one", 11)]) (g := gName 11) rfl sc_law_names.nd (pi_str (pv 2)) (blkOk_by (N := ["deck", "many", "letters", "words", "way", "stem", "found", "k", "at", "name", "m", "one"]) (sc := defScope s_law_names) (own := [("one", 11)]) (by decide +kernel)) (fun _ _ _ _ _ => (pg_name (i := 11) sc_law_names.nd rfl (.inl rfl))) (fun _ _ _ _ _ => (pts_one (pt_cmpR (r := rIn K true) op_notIn_seq (pv 11) (pv 6) (by rfl)))) (fun _ _ _ _ _ => (pv 11))) pe_int (fun _ _ => rfl))))
            pss_nil)
        (pss_one
          (ps_expr (pe_bm PySem.F.plainAttrs_list PySem.F.slot_list_append PySem.F.type_list_append mt_append (pv 6) (pa_cons (pv 9) pa_nil)))))))))))
    (pss_one
      (ps_ret (pv 6))))))))), ?_⟩
    refine ⟨(by show 8 ≤ sizeLine; decide), fun W hW => ?_⟩
    have nW := hD.new hW
    refine ⟨_, rfl, d, g, 4, rfl, hD.same (same_upd hW), by decide, by decide +kernel, fun way H2 w0 w1 hD2 k2 => ?_⟩
    have eW : H2 W = some (.lst (wrd.map V.str)) := k2 _ _ upd_same nW.1 nW.2
    -- stem
    refine ⟨⟨_, rfl⟩, _, rfl, d, g, 8, rfl, hD2, by decide, by decide +kernel, fun m H3 m0 m1 hD3 k3 => ⟨_, rfl, by omega, by omega, fun J hJ => ?_⟩⟩
    refine lc_letters (n := m.toNat) (by omega) rfl rfl (by decide) (by decide) hD3 hJ fun H4 cs hD4 k4 eJ cl low => ?_
    refine ⟨_, J, cs.map one, rfl, rfl, .inl (.of eJ), join_room cs (by omega), ?_⟩
    have ls : Low (Txt.join ("" : Str) (cs.map one)) := fun c hc => by rw [l_join] at hc; exact low c hc
    have ll : (Txt.join ("" : Str) (cs.map one)).length ≤ 7 := by rw [len_l, l_join]; omega
    generalize hst : Txt.join ("" : Str) (cs.map one) = st at ls ll
    -- found = []
    refine ⟨Nat.zero_le _, fun F hF => ?_⟩
    have k0 : Kd d g H H4 := (Same.kd (same_upd hW)).trans (k2.trans (k3.trans k4))
    have eW4 := k4 _ _ (k3 _ _ eW nW.1 nW.2) nW.1 nW.2
    have nF := hD4.new hF
    have WF : W ≠ F := ne_of_none eW4 hF
    have fF : H F = none := k0.free hF nF.1 nF.2
    have n0 : NSt H (upd H4 F (.lst [])) d g F W [] := ⟨hD4.same (same_upd hF), k0.trans (Same.kd (same_upd hF)), upd_same, by rw [upd_ne WF]; exact eW4, fF, nF, nW⟩
    generalize upd H4 F (.lst []) = H5 at n0
    clear eW eW4 k0 k2 k3 k4 hD2 hD3 hD4 hF eJ
    refine ⟨_, rfl, _, rfl, by omega, by omega, for_range (n := _) (fun i σ H' => ∃ (ts : List Str) (x7 x8 x9 : Option V), σ = [some (.ref d), some (.int (n : Int)), some (.str ltr), some (.ref W), some (.int way), some (.str st), some (.ref F), x7, x8, x9, none, none] ∧
      NSt H H' d g F W ts ∧ ts.length = i ∧ (∀ z ∈ ts, Nm z) ∧ ts.Nodup) ⟨[], none, none, none, rfl, n0, rfl, (fun _ h => absurd h List.not_mem_nil), List.nodup_nil⟩ ?_ ?_⟩
    · rintro i σ H6 hi ⟨ts, x7, x8, x9, rfl, n6, tl, tn, td⟩
      have hi12 : i < 12 := by
        have : i < ((n : Int)).toNat := hi
        omega
      -- at, name
      refine ⟨_, rfl, _, rfl, _, rfl, str_line (by omega), _, _, rfl, rfl, d, g, _, rfl, n6.dk, ?_, ?_, fun a H7 a0 a1 hD7 k7 => ?_⟩
      · show (0 : Int) < (st.length : Int) + 1
        omega
      · exact small_log (by show ((st.length : Int) + 1).natAbs < 1024; omega)
      have a2 : a < (st.length : Int) + 1 := a1
      obtain ⟨a, rfl⟩ := Int.eq_ofNat_of_zero_le a0
      have n7 := n6.draw hD7 k7
      refine ⟨_, rfl, _, rfl, _, rfl, st, rfl, str_line (by omega), _, rfl, _, rfl, d, g, 26, rfl, n7.dk, by decide, by decide +kernel, fun r H8 r0 r1 hD8 k8 => ?_⟩
      obtain ⟨r, rfl⟩ := Int.eq_ofNat_of_zero_le r0
      have n8 := n7.draw hD8 k8
      have nz := nm_mid (st := st) (a := a) (r := r) ls ll (by omega) (by omega)
      have c1 := cutS_length st none (some (a : Int))
      have c2 := cutS_length st (some (a : Int)) none
      refine ⟨ltr, r, 97 + r, rfl, rfl, ltr_len, atI_nat (ltr_at r (by omega)), _, _, rfl, rfl, str_line (by show _ + 1 ≤ 1000; omega), _, rfl, _, rfl, _, rfl, st, rfl, str_line (by omega), _, _, rfl, rfl, str_line ?_, ?_⟩
      · have h1 := nz.few
        rw [len_l, l_app, List.length_append, ← len_l, ← len_l] at h1
        exact Nat.le_trans h1 (by decide)
      refine ⟨fun σ' H' => ∃ z, σ' = [some (.ref d), some (.int (n : Int)), some (.str ltr), some (.ref W), some (.int way), some (.str st), some (.ref F), some (.int (0 + (i : Int))), some (.int (a : Int)), some (.str z), none, none] ∧ NSt H H' d g F W ts ∧ Nm z, ?_, ?_⟩
      · refine ⟨_, rfl, rfl, _, rfl, ite2 (fun c => ?_) (fun c => ⟨(cutS st none (some (a : Int)) ++ one (97 + r)) ++ cutS st (some (a : Int)) none, rfl, n8, nz⟩)⟩
        refine ⟨_, rfl, _, _, rfl, rfl, str_line (by show _ + 1 ≤ 1000; omega), _, rfl, _, _, rfl, rfl, _, rfl, _, rfl, str_line ?_, _, rfl, n8, nm_q ls ll (by omega)⟩
        rw [len_l, l_app, List.length_append, ← len_l]
        show st.length + 1 ≤ 1000
        omega
      clear nz n8 n7 n6 hD7 hD8 k7 k8 c1 c2
      rintro σ H9 ⟨z, rfl, n9, nz⟩
      refine ⟨fun σ' H' => ∃ z, σ' = [some (.ref d), some (.int (n : Int)), some (.str ltr), some (.ref W), some (.int way), some (.str st), some (.ref F), some (.int (0 + (i : Int))), some (.int (a : Int)), some (.str z), none, none] ∧ NSt H H' d g F W ts ∧ Nm z, ?_, ?_⟩
      · refine ⟨_, rfl, rfl, _, rfl, ite2 (fun c => ?_) (fun c => ⟨z, rfl, n9, nz⟩)⟩
        refine ⟨_, rfl, _, rfl, d, g, 8, rfl, n9.dk, by decide, by decide +kernel, fun r H10 r0 r1 hD10 k10 => ?_⟩
        obtain ⟨r, rfl⟩ := Int.eq_ofNat_of_zero_le r0
        have n10 := n9.draw hD10 k10
        have hr8 : r < wrd.length := by show r < 8; omega
        exact ⟨W, _, _, V.str wrd[r], rfl, rfl, .of n10.eW, atI_nat (by rw [List.getElem?_map, List.getElem?_eq_getElem hr8]; rfl), _, rfl, n10, wrd_nm _ (List.getElem_mem hr8)⟩
      clear nz n9
      clear z H9
      rintro σ H9 ⟨z, rfl, n9, nz⟩
      refine ⟨fun σ' H' => ∃ z, σ' = [some (.ref d), some (.int (n : Int)), some (.str ltr), some (.ref W), some (.int way), some (.str st), some (.ref F), some (.int (0 + (i : Int))), some (.int (a : Int)), some (.str z), none, none] ∧ NSt H H' d g F W ts ∧ Nm z, ?_, ?_⟩
      · refine ⟨_, rfl, rfl, _, rfl, ite2 (fun c => ?_) (fun c => ⟨z, rfl, n9, nz⟩)⟩
        refine ⟨⟨_, rfl⟩, _, rfl, d, g, 8, rfl, n9.dk, by decide, by decide +kernel, fun m2 H10 m20 m21 hD10 k10 => ⟨_, _, rfl, rfl, _, rfl, by omega, by omega, fun J2 hJ2 => ?_⟩⟩
        have n10 := n9.draw hD10 k10
        refine lc_letters (n := (1 + m2).toNat) (by omega) rfl rfl (by decide) (by decide) n10.dk hJ2 fun H11 cs2 hD11 k11 eJ2 cl2 low2 => ?_
        refine ⟨_, J2, cs2.map one, rfl, rfl, .inl (.of eJ2), join_room cs2 (by omega), _, rfl, n10.draw hD11 k11, ?_, ?_, ?_⟩
        · rw [len_l, l_join]; omega
        · rw [len_l, l_join]; omega
        · intro c hc
          rw [l_join] at hc
          exact low2 c hc
      clear nz n9
      clear z H9
      rintro σ H9 ⟨z, rfl, n9, nz⟩
      refine ⟨fun σ' H' => ∃ z, σ' = [some (.ref d), some (.int (n : Int)), some (.str ltr), some (.ref W), some (.int way), some (.str st), some (.ref F), some (.int (0 + (i : Int))), some (.int (a : Int)), some (.str z), none, none] ∧ NSt H H' d g F W ts ∧ Nm z ∧ z ∉ ts, ?_, ?_⟩
      · refine ⟨_, rfl, _, rfl, F, _, rfl, .inl (.of n9.eF), rfl, flat_strs _, _, rfl, ite2 (fun c => ?_) (fun c => ?_)⟩
        · refine ⟨_, rfl, ltr, rfl, fun D hDn => ?_⟩
          refine lc_str (fun i H' => H' D = some (.lst ((((ltr.cps.toList.take i).filter (fun c => decide (one c ∉ ts))).map one).map V.str)) ∧ Same H9 H') ⟨upd_same, same_upd hDn⟩ ?_ ?_
          · rintro i2 c2 H10 hc2 ⟨eD, sm⟩
            have hc3 : ltr.cps.toList[i2]? = some c2 := by simpa using hc2
            have i26 : i2 < 26 := by
              have := (List.getElem?_eq_some_iff.mp hc3).1
              rw [ltr_l] at this
              exact this
            have et : ltr.cps.toList.take (i2 + 1) = ltr.cps.toList.take i2 ++ [c2] := by rw [List.take_add_one, hc3]; rfl
            refine ⟨rfl, _, rfl, _, rfl, F, _, rfl, .inl (.of (sm _ _ n9.eF)), rfl, flat_strs _, _, rfl, ?_⟩
            have ei : inV (V.str ⟨#[c2]⟩) (ts.map V.str) = decide (one c2 ∈ ts) := inV_str (one c2) ts
            refine ite2 (fun c => ?_) (fun c => ?_)
            · have h1 : (!inV (V.str ⟨#[c2]⟩) (ts.map V.str)) = true := c
              rw [ei] at h1
              have h2 : one c2 ∉ ts := by simpa using h1
              refine ⟨_, rfl, _, eD, ?_, ?_, fun b o e => ?_⟩
              · rw [List.length_map, List.length_map]
                refine small1000 (Nat.le_trans (List.length_filter_le _ _) ?_)
                rw [List.length_take]
                omega
              · rw [upd_same, et, List.filter_append, List.map_append, List.map_append]
                have : List.filter (fun c => decide (one c ∉ ts)) [c2] = [c2] := by rw [List.filter_cons_of_pos (by simpa using h2)]; rfl
                rw [this]
                rfl
              · rw [upd_ne (ne_of_none e hDn)]
                exact sm b o e
            · have h1 : ¬ (!inV (V.str ⟨#[c2]⟩) (ts.map V.str)) = true := c
              rw [ei] at h1
              have h2 : one c2 ∈ ts := by simpa using h1
              refine ⟨?_, sm⟩
              rw [eD, et, List.filter_append]
              have : List.filter (fun c => decide (one c ∉ ts)) [c2] = [] := by rw [List.filter_cons_of_neg (by simpa using h2)]; rfl
              rw [this, List.append_nil]
          · rintro H10 ⟨eD, sm⟩
            obtain ⟨c0, r0, e0⟩ := ltr_free (ts := ts) (by omega)
            have e26 : ltr.cps.size = ltr.cps.toList.length := by simp
            rw [e26, List.take_length, e0] at eD
            have hm : c0 ∈ ltr.cps.toList.filter (fun c => decide (one c ∉ ts)) := by rw [e0]; exact List.mem_cons_self
            obtain ⟨hm1, hm2⟩ := List.mem_filter.mp hm
            have hb : 97 ≤ c0 ∧ c0 ≤ 122 := by
              rw [ltr_l] at hm1
              simp only [List.mem_cons, List.not_mem_nil, or_false] at hm1
              omega
            exact ⟨D, _, _, V.str (one c0), rfl, rfl, .of eD, atI_nat (j := 0) rfl, one c0, rfl, n9.draw (n9.dk.same sm) (Same.kd sm), nm_one hb.1 hb.2, by simpa using hm2⟩
        · have h1 : ¬ inV (V.str z) (ts.map V.str) = true := c
          rw [inV_str] at h1
          exact ⟨z, rfl, n9, nz, by simpa using h1⟩
      clear nz n9
      clear z H9
      rintro σ H9 ⟨z, rfl, n9, nz, nin⟩
      refine ⟨_, rfl, .inl ⟨rfl, _, .of n9.eF⟩, _, rfl, F, _, _, rfl, rfl, n9.eF, ?_, ts ++ [z], _, _, _, rfl, ⟨?_, ?_, ?_, ?_, n9.fF, n9.nF, n9.nW⟩, ?_, ?_, ?_⟩
      · rw [List.length_map]; exact small1000 (by omega)
      · obtain ⟨gs, b, m, h1, h2, h3⟩ := n9.dk
        exact ⟨gs, b, m, by rw [upd_ne n9.nF.1.symm]; exact h1, by rw [upd_ne n9.nF.2.symm]; exact h2, h3⟩
      · intro b o e h1 h2
        rw [upd_ne (ne_of_none e n9.fF)]
        exact n9.kd b o e h1 h2
      · rw [upd_same, List.map_append]; rfl
      · rw [upd_ne WF]; exact n9.eW
      · rw [List.length_append, tl]; rfl
      · intro y hy
        rcases List.mem_append.mp hy with h | h
        · exact tn y h
        · rw [List.mem_singleton.mp h]; exact nz
      · exact List.nodup_append.mpr ⟨td, List.nodup_cons.mpr ⟨List.not_mem_nil, List.nodup_nil⟩, fun x hx y hy e => nin (by rw [← List.mem_singleton.mp hy, ← e]; exact hx)⟩
    · rintro σ H6 ⟨ts, x7, x8, x9, rfl, n6, tl, tn, td⟩
      exact ⟨_, rfl, k F ts H6 n6.dk n6.kd n6.fF n6.eF n6.nF.1 n6.nF.2 (by rw [tl]; omega) tn td⟩
/-! ### rules, data, orders -/
/-- tuples stand -/
def Tk (H H' : Hp) : Prop := ∀ b xs, H b = some (.tup xs) → H' b = some (.tup xs)
theorem Same.tk {H H' : Hp} (s : Same H H') : Tk H H' := fun b _ h => s b _ h
theorem Kd.tk {d g : Addr} {H H' : Hp} (k : Kd d g H H') (hD : Deck H d g) : Tk H H' := fun b xs h => by
  obtain ⟨gs, a, m, h1, h2, _⟩ := hD
  exact k b _ h (ne_of h h1 (by intro z; cases z)) (ne_of h h2 (by intro z; cases z))
theorem Tk.trans {H H1 H2 : Hp} (a : Tk H H1) (b : Tk H1 H2) : Tk H H2 := fun x xs h => b x xs (a x xs h)
theorem tk_mut {H : Hp} {p : Addr} {xs : List V} {o : HO} (h : H p = some (.lst xs)) : Tk H (upd H p o) := fun b ys e => by
  rw [upd_ne (ne_of e h (by intro z; cases z))]
  exact e
inductive Rls (ts : List Str) (H : Hp) : List Addr → List (List Str) → Prop
  | nil : Rls ts H [] []
  | cons {a : Addr} {l : List Str} {as : List Addr} {ls : List (List Str)} : H a = some (.tup (l.map V.str)) → RuleOk ts l → Rls ts H as ls → Rls ts H (a :: as) (l :: ls)
theorem Rls.keep {ts : List Str} {H H' : Hp} (k : Tk H H') : ∀ {as : List Addr} {ls : List (List Str)}, Rls ts H as ls → Rls ts H' as ls
  | _, _, .nil => .nil
  | _, _, .cons h n r => .cons (k _ _ h) n (r.keep k)
theorem Rls.snoc {ts : List Str} {H : Hp} {a : Addr} {l : List Str} (h : H a = some (.tup (l.map V.str))) (n : RuleOk ts l) : ∀ {as : List Addr} {ls : List (List Str)}, Rls ts H as ls → Rls ts H (as ++ [a]) (ls ++ [l])
  | _, _, .nil => .cons h n .nil
  | _, _, .cons h1 n1 r => .cons h1 n1 (r.snoc h n)
theorem Rls.len {ts : List Str} {H : Hp} : ∀ {as : List Addr} {ls : List (List Str)}, Rls ts H as ls → as.length = ls.length
  | _, _, .nil => rfl
  | _, _, .cons _ _ r => congrArg Nat.succ r.len
theorem Rls.at {ts : List Str} {H : Hp} {a : Addr} : ∀ {as : List Addr} {ls : List (List Str)} {i : Nat}, Rls ts H as ls → as[i]? = some a → ∃ l, ls[i]? = some l ∧ H a = some (.tup (l.map V.str)) ∧ RuleOk ts l
  | _, _, _, .nil, e => by simp at e
  | _, _, 0, .cons h n r, e => by
    have := Option.some.inj e
    subst this
    exact ⟨_, rfl, h, n⟩
  | _, _, i + 1, .cons h n r, e => r.at (i := i) e
theorem Rls.set {ts : List Str} {H : Hp} {a : Addr} {l : List Str} (h : H a = some (.tup (l.map V.str))) (n : RuleOk ts l) : ∀ {as : List Addr} {ls : List (List Str)} (i : Nat), Rls ts H as ls → Rls ts H (as.set i a) (ls.set i l)
  | _, _, _, .nil => .nil
  | _, _, 0, .cons _ _ r => .cons h n r
  | _, _, i + 1, .cons h1 n1 r => .cons h1 n1 (Rls.set h n i r)
theorem Rls.mem {ts : List Str} {H : Hp} {as : List Addr} {ls : List (List Str)} (h : Rls ts H as ls) {a : Addr} (ha : a ∈ as) : ∃ l, H a = some (.tup (l.map V.str)) ∧ RuleOk ts l := by
  obtain ⟨i, hi, e⟩ := List.mem_iff_getElem.mp ha
  obtain ⟨l, _, h2, h3⟩ := h.at (i := i) (by rw [List.getElem?_eq_getElem hi, e])
  exact ⟨l, h2, h3⟩
/-- what stands from H0 on, all but the deck -/
structure Std (H0 H' : Hp) (d g : Addr) : Prop where
  dk : Deck H' d g
  kd : Kd d g H0 H'
theorem Std.refl {H : Hp} {d g : Addr} (h : Deck H d g) : Std H H d g := ⟨h, Kd.refl H⟩
theorem Std.draw {H0 H1 H2 : Hp} {d g : Addr} (s : Std H0 H1 d g) (h : Deck H2 d g) (k : Kd d g H1 H2) : Std H0 H2 d g := ⟨h, s.kd.trans k⟩
theorem Std.trans {H0 H1 H2 : Hp} {d g : Addr} (s : Std H0 H1 d g) (t : Std H1 H2 d g) : Std H0 H2 d g := ⟨t.dk, s.kd.trans t.kd⟩
theorem Std.new {H0 H1 : Hp} {d g p : Addr} {o : HO} (s : Std H0 H1 d g) (hp : H1 p = none) : Std H0 (upd H1 p o) d g := ⟨s.dk.same (same_upd hp), s.kd.trans (Same.kd (same_upd hp))⟩
theorem Std.free {H0 H1 : Hp} {d g p : Addr} (s : Std H0 H1 d g) (hp : H1 p = none) : H0 p = none := s.kd.free hp (s.dk.new hp).1 (s.dk.new hp).2
theorem Std.mut {H0 H1 : Hp} {d g p : Addr} {o : HO} (s : Std H0 H1 d g) (hp : H0 p = none) (n1 : p ≠ d) (n2 : p ≠ g) : Std H0 (upd H1 p o) d g := by
  refine ⟨?_, fun b u e h1 h2 => ?_⟩
  · obtain ⟨gs, a, m, h1, h2, h3⟩ := s.dk
    exact ⟨gs, a, m, by rw [upd_ne n1.symm]; exact h1, by rw [upd_ne n2.symm]; exact h2, h3⟩
  · rw [upd_ne (ne_of_none e hp)]
    exact s.kd b u e h1 h2
/-- a list apart from the deck -/
structure Lat (H : Hp) (d g p : Addr) (xs : List V) : Prop where
  at_ : H p = some (.lst xs)
  nd : p ≠ d
  ng : p ≠ g
theorem Lat.keep {H H' : Hp} {d g p : Addr} {xs : List V} (h : Lat H d g p xs) (k : Kd d g H H') : Lat H' d g p xs := ⟨k _ _ h.at_ h.nd h.ng, h.nd, h.ng⟩
theorem Lat.new {H : Hp} {d g p : Addr} {xs : List V} (h : Deck H d g) (hp : H p = none) : Lat (upd H p (.lst xs)) d g p xs := ⟨upd_same, (h.new hp).1, (h.new hp).2⟩
def kds : List Str := ["first", "last", "before", "upto", "same", "apart", "far", "next"]
theorem kds_two : ∀ z ∈ kds, z ∈ two ∨ z ∈ six := by decide +kernel
theorem kds_first : ∀ r : Nat, (h : r < kds.length) → r < 2 → kds[r] ∈ two := by decide +kernel
theorem two_in (z : Str) : inV (V.str z) [V.str ("first" : Str), V.str ("last" : Str)] = decide (z ∈ two) := inV_str z two
theorem turn_ne {n e p : Int} (hn : 2 ≤ n) (p0 : 0 ≤ p) (p1 : p < n) (e0 : 0 ≤ e) (e1 : e < n - 1) : 0 ≤ (p + 1 + e) % n ∧ (p + 1 + e) % n < n ∧ (p + 1 + e) % n ≠ p := by
  refine ⟨Int.emod_nonneg _ (by omega), Int.emod_lt_of_pos _ (by omega), ?_⟩
  by_cases h : p + 1 + e < n
  · rw [Int.emod_eq_of_lt (by omega) h]; omega
  · rw [← Int.sub_emod_right, Int.emod_eq_of_lt (by omega) (by omega)]; omega
def sp_rule : Sp := fun vs H Q _ => ∃ (d g t : Addr) (ts : List Str), vs = [.ref d, .ref t] ∧ Deck H d g ∧ Lat H d g t (ts.map V.str) ∧ TasksOk ts ∧
  ∀ (a : Addr) (l : List Str) (H' : Hp), Std H H' d g → H a = none → H' a = some (.tup (l.map V.str)) → RuleOk ts l → Q (.ref a) H'
theorem ok_law_rule (T : Tx K w mg) : FnOk P w K mg base CX0 2 T.f_law_rule T.d_law_rule ["deck", "task_list"] sp_rule := by
  refine T.F_law_rule.ok sc_law_rule (fun vs H Q E h => ?_) (fun cdv A outer s H vs Q E hr h => ?_)
  · obtain ⟨d, g, t, ts, rfl, _⟩ := h
    rfl
  · obtain ⟨d, g, t, ts, rfl, hD, lt, ok, k⟩ := h
    refine ⟨_,
    (pss_cons
      (ps_set (i := 2) sc_law_rule.nd rfl (.inl rfl) (pe_lst (pa_cons pe_str (pa_cons pe_str (pa_cons pe_str (pa_cons pe_str (pa_cons pe_str (pa_cons pe_str (pa_cons pe_str (pa_cons pe_str pa_nil))))))))))
    (pss_cons
      (ps_if (pt_cmpR op_eq (pe_callB call_len_seq (by rfl) T.m_len (by decide +kernel) (pa_cons (pv 1) pa_nil)) pe_int (nomark _))
        (pss_one
          (ps_ret (pe_tup (pa_cons (pe_ix ix_list (pv 2) (pe_call (ok_law_draw T) hr (by rfl) T.g_law_draw T.F_law_draw.kp T.b_law_draw .nil pass0 (pa_cons (pv 0) (pa_cons pe_int pa_nil))) (fun _ _ => rfl)) (pa_cons (pe_ix ix_list (pv 1) pe_int (fun _ _ => rfl)) pa_nil)))))
        pss_nil)
    (pss_cons
      (ps_set (i := 3) sc_law_rule.nd rfl (.inl rfl) (pe_ix ix_list (pv 2) (pe_call (ok_law_draw T) hr (by rfl) T.g_law_draw T.F_law_draw.kp T.b_law_draw .nil pass0 (pa_cons (pv 0) (pa_cons pe_int pa_nil))) (fun _ _ => rfl)))
    (pss_cons
      (ps_set (i := 4) sc_law_rule.nd rfl (.inl rfl) (pe_call (ok_law_draw T) hr (by rfl) T.g_law_draw T.F_law_draw.kp T.b_law_draw .nil pass0 (pa_cons (pv 0) (pa_cons (pe_callB call_len_seq (by rfl) T.m_len (by decide +kernel) (pa_cons (pv 1) pa_nil)) pa_nil))))
    (pss_cons
      (ps_if (pt_cmpR op_in_seq (pv 3) (pe_tup (pa_cons pe_str (pa_cons pe_str pa_nil))) (by rfl))
        (pss_one
          (ps_ret (pe_tup (pa_cons (pv 3) (pa_cons (pe_ix ix_list (pv 1) (pv 4) (fun _ _ => rfl)) pa_nil)))))
        pss_nil)
    (pss_one
      (ps_ret (pe_tup (pa_cons (pv 3) (pa_cons (pe_ix ix_list (pv 1) (pv 4) (fun _ _ => rfl)) (pa_cons (pe_ix ix_list (pv 1) (pe_op op_mod (pe_op op_add (pe_op op_add (pv 4) pe_int) (pe_call (ok_law_draw T) hr (by rfl) T.g_law_draw T.F_law_draw.kp T.b_law_draw .nil pass0 (pa_cons (pv 0) (pa_cons (pe_op op_sub (pe_callB call_len_seq (by rfl) T.m_len (by decide +kernel) (pa_cons (pv 1) pa_nil)) pe_int) pa_nil)))) (pe_callB call_len_seq (by rfl) T.m_len (by decide +kernel) (pa_cons (pv 1) pa_nil))) (fun _ _ => rfl)) pa_nil))))))))))), ?_⟩
    have tne : 0 < ts.length := List.length_pos_iff.mpr ok.ne
    have tfew := ok.few
    refine ⟨(by show 8 ≤ sizeLine; decide), fun Z hZ => ?_⟩
    have s1 : Std H (upd H Z (.lst (kds.map V.str))) d g := (Std.refl hD).new hZ
    have lz : Lat (upd H Z (.lst (kds.map V.str))) d g Z (kds.map V.str) := Lat.new hD hZ
    have lt1 := lt.keep s1.kd
    refine ⟨_, rfl, t, _, rfl, .inl (.of lt1.at_), rfl, _, rfl, ite2 (fun c => ?_) (fun c => ?_)⟩
    · have c1 : ts.length = 1 := by
        have := V.int.inj (of_decide_eq_true c)
        rw [List.length_map] at this
        omega
      refine ⟨_, rfl, _, rfl, d, g, 2, rfl, s1.dk, by decide, by decide +kernel, fun r H2 r0 r1 hD2 k2 => ?_⟩
      obtain ⟨r, rfl⟩ := Int.eq_ofNat_of_zero_le r0
      have s2 := s1.draw hD2 k2
      have hr8 : r < kds.length := by show r < 8; omega
      refine ⟨Z, _, _, V.str kds[r], rfl, rfl, .of (lz.keep k2).at_, atI_nat (by rw [List.getElem?_map, List.getElem?_eq_getElem hr8]; rfl), _, rfl, t, _, _, V.str ts[0], rfl, rfl, .of (lt.keep s2.kd).at_, atI_nat (j := 0) (by rw [List.getElem?_map, List.getElem?_eq_getElem tne]; rfl), (by show 2 ≤ sizeLine; decide), fun a ha => ?_⟩
      exact k a [kds[r], ts[0]] _ (s2.new ha) (s2.free ha) upd_same (.inl ⟨_, _, kds_first r hr8 (by omega), List.getElem_mem tne, rfl⟩)
    · have c1 : ts.length ≠ 1 := fun z => c (decide_eq_true (by rw [List.length_map, z]; rfl))
      refine ⟨_, rfl, _, rfl, d, g, 8, rfl, s1.dk, by decide, by decide +kernel, fun r H2 r0 r1 hD2 k2 => ?_⟩
      obtain ⟨r, rfl⟩ := Int.eq_ofNat_of_zero_le r0
      have s2 := s1.draw hD2 k2
      have hr8 : r < kds.length := by show r < 8; omega
      refine ⟨Z, _, _, V.str kds[r], rfl, rfl, .of (lz.keep k2).at_, atI_nat (by rw [List.getElem?_map, List.getElem?_eq_getElem hr8]; rfl), ?_⟩
      have hk := kds_two _ (List.getElem_mem hr8)
      generalize kds[r] = kd at hk
      -- one
      have lt2 := lt.keep s2.kd
      refine ⟨_, rfl, _, rfl, t, _, rfl, .inl (.of lt2.at_), d, g, _, rfl, s2.dk, ?_, ?_, fun p H3 p0 p1 hD3 k3 => ?_⟩
      · rw [List.length_map]; omega
      · rw [List.length_map]; exact small_log (by omega)
      rw [List.length_map] at p1
      obtain ⟨p, rfl⟩ := Int.eq_ofNat_of_zero_le p0
      have s3 := s2.draw hD3 k3
      have hp : p < ts.length := by omega
      refine ⟨_, rfl, (by show 2 ≤ sizeLine; decide), fun U hU => ⟨U, _, rfl, .inr (.of upd_same), rfl, rfl, _, rfl, ?_⟩⟩
      have s4 : Std H (upd H3 U (.tup [.str ("first" : Str), .str ("last" : Str)])) d g := s3.new hU
      have lt4 := lt.keep s4.kd
      refine ite2 (fun c => ?_) (fun c => ?_)
      · have h1 : inV (V.str kd) [V.str ("first" : Str), V.str ("last" : Str)] = true := c
        rw [two_in] at h1
        refine ⟨_, rfl, _, rfl, _, rfl, t, _, _, V.str ts[p], rfl, rfl, .of lt4.at_, atI_nat (by rw [List.getElem?_map, List.getElem?_eq_getElem hp]; rfl), (by show 2 ≤ sizeLine; decide), fun a ha => ?_⟩
        exact k a [kd, ts[p]] _ (s4.new ha) (s4.free ha) upd_same (.inl ⟨_, _, of_decide_eq_true h1, List.getElem_mem hp, rfl⟩)
      · have h1 : ¬ inV (V.str kd) [V.str ("first" : Str), V.str ("last" : Str)] = true := c
        rw [two_in] at h1
        have h2 : kd ∉ two := fun z => h1 (decide_eq_true z)
        have h3 : kd ∈ six := hk.resolve_left h2
        refine ⟨_, rfl, _, rfl, _, rfl, t, _, _, V.str ts[p], rfl, rfl, .of lt4.at_, atI_nat (by rw [List.getElem?_map, List.getElem?_eq_getElem hp]; rfl), ?_⟩
        refine ⟨_, rfl, _, rfl, _, _, rfl, rfl, _, rfl, _, rfl, t, _, rfl, .inl (.of lt4.at_), _, _, rfl, rfl, d, g, _, rfl, s4.dk, ?_, ?_, fun e H5 e0 e1 hD5 k5 => ?_⟩
        · show (0 : Int) < ((ts.map V.str).length : Int) - 1
          rw [List.length_map]; omega
        · refine small_log ?_
          show (((ts.map V.str).length : Int) - 1).natAbs < 1024
          rw [List.length_map]; omega
        have e2 : e < ((ts.map V.str).length : Int) - 1 := e1
        rw [List.length_map] at e2
        have s5 := s4.draw hD5 k5
        have lt5 := lt.keep s5.kd
        obtain ⟨q0, q1, qn⟩ := turn_ne (n := ts.length) (e := e) (p := p) (by omega) (by omega) (by omega) e0 e2
        obtain ⟨q, hq⟩ := Int.eq_ofNat_of_zero_le q0
        have hql : q < ts.length := by omega
        refine ⟨_, _, rfl, rfl, _, rfl, t, _, rfl, .inl (.of lt5.at_), _, _, rfl, rfl, ?_, t, _, _, V.str ts[q], rfl, rfl, .of lt5.at_, at_of (j := q) ?_ (by rw [List.getElem?_map, List.getElem?_eq_getElem hql]; rfl), (by show 3 ≤ sizeLine; decide), fun a ha => ?_⟩
        · show (0 : Int) < ((ts.map V.str).length : Int)
          rw [List.length_map]; omega
        · show ((p : Int) + 1 + e) % ((ts.map V.str).length : Int) = (q : Int)
          rw [List.length_map]; exact hq
        refine k a [kd, ts[p], ts[q]] _ (s5.new ha) (s5.free ha) upd_same (.inr ⟨_, _, _, h3, List.getElem_mem hp, List.getElem_mem hql, fun z => ?_, rfl⟩)
        have := (List.getElem_inj ok.nd).mp z
        omega
def sp_order : Sp := fun vs H Q _ => ∃ (d g : Addr) (n : Nat), vs = [.ref d, .int n] ∧ Deck H d g ∧ n ≤ 1000 ∧
  ∀ (p : Addr) (os : List Int) (H' : Hp), Std H H' d g → H p = none → H' p = some (.lst (os.map V.int)) → p ≠ d → p ≠ g → (∀ o ∈ os, 0 ≤ o ∧ o < n) → os.length = n → os.Nodup → Q (.ref p) H'
theorem erase_map : ∀ (l : List Int) (j : Nat), (l.map V.int).eraseIdx j = (l.eraseIdx j).map V.int
  | [], _ => rfl
  | _ :: _, 0 => rfl
  | a :: r, j + 1 => by
    show V.int a :: (r.map V.int).eraseIdx j = V.int a :: (r.eraseIdx j).map V.int
    rw [erase_map r j]
def rng (n : Nat) : List Int := (List.range n).map Int.ofNat
theorem rng_v (n : Nat) : rgV 0 (n : Int) = (rng n).map V.int := by
  unfold rgV rng
  rw [List.map_map, show ((n : Int) - 0).toNat = n by omega]
  refine List.map_congr_left fun i _ => ?_
  show V.int (0 + (i : Int)) = V.int (i : Int)
  rw [Int.zero_add]
theorem rng_in {n : Nat} {o : Int} (h : o ∈ rng n) : 0 ≤ o ∧ o < n := by
  obtain ⟨i, hi, rfl⟩ := List.mem_map.mp h
  have := List.mem_range.mp hi
  have e : Int.ofNat i = (i : Int) := rfl
  omega
theorem rng_nd (n : Nat) : (rng n).Nodup := by
  unfold rng List.Nodup
  rw [List.pairwise_map]
  exact (List.nodup_range (n := n)).imp fun h z => h (Int.ofNat.inj z)
theorem rng_len (n : Nat) : (rng n).length = n := by
  unfold rng
  rw [List.length_map, List.length_range]
theorem log20 {m : Int} (h : m.natAbs < 1048576) : m.natAbs.log2 < 9000 := by
  have h1 : m.natAbs.log2 < 20 := PySem.Flt.log2_lt_of (by decide) h
  omega
theorem perm_erase : ∀ (l : List Int) (j : Nat) (h : j < l.length), l.Perm (l[j] :: l.eraseIdx j)
  | a :: r, 0, _ => List.Perm.refl _
  | a :: r, j + 1, h => by
    have ih := perm_erase r j (Nat.lt_of_succ_lt_succ h)
    exact (List.Perm.cons a ih).trans (List.Perm.swap _ _ _)
theorem ok_law_order (T : Tx K w mg) : FnOk P w K mg base CX0 2 T.f_law_order T.d_law_order ["deck", "many"] sp_order := by
  refine T.F_law_order.ok sc_law_order (fun vs H Q E h => ?_) (fun cdv A outer s H vs Q E hr h => ?_)
  · obtain ⟨d, g, n, rfl, _⟩ := h
    rfl
  · obtain ⟨d, g, n, rfl, hD, hn, k⟩ := h
    refine ⟨_,
    (pss_cons
      (ps_set (i := 2) sc_law_order.nd rfl (.inr rfl) (pe_listRg rfl (by rfl) T.m_list (prg_1 (by rfl) T.m_range (pv 1))))
    (pss_one
      (ps_ret (pe_lc (own := [("k", 3)]) (g := gName 3) rfl sc_law_order.nd (pi_range1 (by rfl) T.m_range (pa_cons (pv 1) pa_nil)) (blkOk_by (N := ["deck", "many", "left", "k"]) (sc := defScope s_law_order) (own := [("k", 3)]) (by decide +kernel)) (fun _ _ _ _ _ => (pg_name (i := 3) sc_law_order.nd rfl (.inl rfl))) (fun _ _ _ _ _ => pts_nil) (fun _ _ _ _ _ => (pe_bmK (K := K) rfl PySem.F.plainAttrs_list PySem.F.slot_list_pop PySem.F.type_list_pop mt_popAt (pv 2) (pa_cons (pe_call (ok_law_draw T) hr (by rfl) T.g_law_draw T.F_law_draw.kp T.b_law_draw .nil pass0 (pa_cons (pv 0) (pa_cons (pe_callB (id := "len") (r := rLen K) call_len_seq (by rfl) T.m_len (by decide +kernel) (pa_cons (pv 2) pa_nil)) pa_nil))) pa_nil))))))), ?_⟩
    refine ⟨_, rfl, _, rfl, ?_, fun L hL => ?_⟩
    · exact RgOk.of_le (by omega) (by omega) (by omega) (by omega)
    rw [rng_v]
    have dL := hD.new hL
    have s1 : Std H (upd H L (.lst ((rng n).map V.int))) d g := (Std.refl hD).new hL
    have e1 : (upd H L (.lst ((rng n).map V.int))) L = some (.lst ((rng n).map V.int)) := upd_same
    generalize upd H L (.lst ((rng n).map V.int)) = H1 at s1 e1
    refine ⟨_, rfl, _, rfl, by omega, by omega, fun D hDn => ?_⟩
    have dD := s1.dk.new hDn
    have LD : L ≠ D := ne_of_none e1 hDn
    have fD := s1.free hDn
    refine lc_range (lo := 0) (n := ((n : Int)).toNat) (fun i H' => ∃ os ls : List Int, Std H H' d g ∧ H' L = some (.lst (ls.map V.int)) ∧ H' D = some (.lst (os.map V.int)) ∧ (os ++ ls).Nodup ∧ (∀ o ∈ os ++ ls, 0 ≤ o ∧ o < n) ∧ os.length = i ∧ ls.length + i = n) ?_ ?_ ?_
    · exact ⟨[], rng n, s1.new hDn, by rw [upd_ne LD]; exact e1, upd_same, rng_nd n, fun o ho => rng_in ho, rfl, rng_len n⟩
    · rintro i H2 hi ⟨os, ls, s2, eL, eD, nd, hin, ol, ll⟩
      have hi2 : i < n := by
        have : i < ((n : Int)).toNat := hi
        omega
      refine ⟨rfl, _, rfl, .inl ⟨rfl, _, .of eL⟩, _, rfl, _, rfl, L, _, rfl, .inl (.of eL), d, g, _, rfl, s2.dk, ?_, ?_, fun r H3 r0 r1 hD3 k3 => ?_⟩
      · show (0 : Int) < ((ls.map V.int).length : Int)
        rw [List.length_map]; omega
      · refine log20 ?_
        show (((ls.map V.int).length : Nat) : Int).natAbs < 1048576
        rw [List.length_map]; omega
      have r2 : r < ((ls.map V.int).length : Int) := r1
      rw [List.length_map] at r2
      obtain ⟨j, rfl⟩ := Int.eq_ofNat_of_zero_le r0
      have hj : j < ls.length := by omega
      have s3 := s2.draw hD3 k3
      have eL3 := k3 _ _ eL dL.1 dL.2
      have eD3 := k3 _ _ eD dD.1 dD.2
      have pm : (os ++ ls).Perm ((os ++ [ls[j]]) ++ ls.eraseIdx j) := by
        rw [List.append_assoc]
        exact List.Perm.append_left os (perm_erase ls j hj)
      refine ⟨L, ls.map V.int, j, j, V.int ls[j], rfl, rfl, eL3, by omega, by omega, (ixN_seq (ixN_nat (by rw [List.length_map]; exact hj))).1, by rw [List.getElem?_map, List.getElem?_eq_getElem hj]; rfl, os.map V.int, ?_, ?_, os ++ [ls[j]], ls.eraseIdx j, (s3.mut hL dL.1 dL.2).mut fD dD.1 dD.2, ?_, ?_, pm.nodup_iff.mp nd, fun o ho => hin o (pm.mem_iff.mpr ho), ?_, ?_⟩
      · rw [upd_ne LD.symm]; exact eD3
      · rw [List.length_map, ol]; exact small1000 (by omega)
      · rw [upd_ne LD, upd_same, erase_map]
      · rw [upd_same, List.map_append]; rfl
      · rw [List.length_append, ol]; rfl
      · rw [List.length_eraseIdx_of_lt hj]; omega
    · rintro H2 ⟨os, ls, s2, eL, eD, nd, hin, ol, ll⟩
      exact k D os H2 s2 fD eD dD.1 dD.2 (fun o ho => hin o (List.mem_append_left _ ho)) (by rw [ol]; omega) (List.nodup_append.mp nd).1
theorem ixN_last {n : Nat} (h : 0 < n) : ixN n (-1) = some (n - 1) := by
  unfold ixN
  rw [if_neg (by decide), if_pos (by omega)]
  congr 1
  omega
def sp_data : Sp := fun vs H Q _ => ∃ (d g : Addr) (mt mr : Int), vs = [.ref d, .int mt, .int mr] ∧ Deck H d g ∧ 0 < mt ∧ mt ≤ 12 ∧ 0 ≤ mr ∧ mr ≤ 100 ∧
  ∀ (u t r : Addr) (ts : List Str) (as : List Addr) (ls : List (List Str)) (H' : Hp), Std H H' d g → H t = none → H r = none → H' u = some (.tup [.ref t, .ref r]) → Lat H' d g t (ts.map V.str) → Lat H' d g r (as.map V.ref) → t ≠ r → Rls ts H' as ls → TasksOk ts → ts.length ≤ 12 → as.length ≤ mr → Q (.ref u) H'
theorem ok_law_data (T : Tx K w mg) : FnOk P w K mg base CX0 3 T.f_law_data T.d_law_data ["deck", "most_tasks", "most_rules"] sp_data := by
  refine T.F_law_data.ok sc_law_data (fun vs H Q E h => ?_) (fun cdv A outer s H vs Q E hr h => ?_)
  · obtain ⟨d, g, mt, mr, rfl, _⟩ := h
    rfl
  · obtain ⟨d, g, mt, mr, rfl, hD, t0, t1, r0, r1, k⟩ := h
    refine ⟨_,
    (pss_cons
      (ps_set (i := 3) sc_law_data.nd rfl (.inr rfl) (pe_call (ok_law_names T) hr (by rfl) T.g_law_names T.F_law_names.kp T.b_law_names .nil pass0 (pa_cons (pv 0) (pa_cons (pe_op op_add pe_int (pe_call (ok_law_draw T) (hr.mono (by decide)) (by rfl) T.g_law_draw T.F_law_draw.kp T.b_law_draw .nil pass0 (pa_cons (pv 0) (pa_cons (pv 1) pa_nil)))) pa_nil))))
    (pss_cons
      (ps_setLc (i := 4) (own := [("k", 5)]) (g := gName 5) rfl sc_law_data.nd rfl rfl (sw_true rfl rfl rfl (by decide +kernel)) (pi_range1 (by rfl) T.m_range (pa_cons (pe_call (ok_law_draw T) (hr.mono (by decide)) (by rfl) T.g_law_draw T.F_law_draw.kp T.b_law_draw .nil pass0 (pa_cons (pv 0) (pa_cons (pe_op op_add (pv 2) pe_int) pa_nil))) pa_nil)) (blkOk_by (N := ["deck", "most_tasks", "most_rules", "task_list", "rule_list", "k"]) (sc := defScope s_law_data) (own := [("k", 5)]) (by decide +kernel)) (fun _ _ _ _ _ => (pg_name (i := 5) sc_law_data.nd rfl (.inl rfl))) (fun _ _ _ _ _ => pts_nil) (fun _ _ _ _ _ => (pe_call (ok_law_rule T) hr (by rfl) T.g_law_rule T.F_law_rule.kp T.b_law_rule .nil pass0 (pa_cons (pv 0) (pa_cons (pv 3) pa_nil)))))
    (C8.pss_cut
      (ps_if (PW.pt (pw_and (pt_cmpR op_gt (pe_callB call_len_seq (by rfl) T.m_len (by decide +kernel) (pa_cons (pv 4) pa_nil)) pe_int (nomark _)) (pw_and1 (pt_cmpR op_eq (pe_call (ok_law_draw T) (hr.mono (by decide)) (by rfl) T.g_law_draw T.F_law_draw.kp T.b_law_draw .nil pass0 (pa_cons (pv 0) (pa_cons pe_int pa_nil))) pe_int (nomark _)))))
        (pss_one
          (ps_asg (pe_ix ix_list (pv 4) pe_int (fun _ _ => rfl)) (pg_sub (pv 4) (pe_un un_neg pe_int) set_list)))
        pss_nil)
    (pss_one
      (ps_ret (pe_tup (pa_cons (pv 3) (pa_cons (pv 4) pa_nil)))))))), ?_⟩
    refine ⟨_, rfl, _, rfl, _, rfl, d, g, mt, rfl, hD, t0, small_log (by omega), fun m H1 m0 m1 hD1 k1 => ?_⟩
    obtain ⟨m, rfl⟩ := Int.eq_ofNat_of_zero_le m0
    refine ⟨_, _, rfl, rfl, d, g, 1 + m, rfl, hD1, by omega, by omega, fun t ts H2 hD2 k2 ft et n1 n2 tl tn td => ?_⟩
    have s2 : Std H H2 d g := ((Std.refl hD).draw hD1 k1).draw hD2 k2
    have lt : Lat H2 d g t (ts.map V.str) := ⟨et, n1, n2⟩
    have ok : TasksOk ts := ⟨fun z => by rw [z] at tl; simp at tl; omega, tn, td, by omega⟩
    have ft0 : H t = none := ((Std.refl hD).draw hD1 k1).free ft
    clear hD1 k1 hD2 k2 ft et n1 n2
    -- rule_list
    refine ⟨_, rfl, _, rfl, _, _, rfl, rfl, d, g, _, rfl, s2.dk, ?_, ?_, fun n H3 n0 n1 hD3 k3 => ⟨_, rfl, ?_, ?_, fun R hR => ?_⟩⟩
    · show (0 : Int) < mr + 1
      omega
    · exact small_log (by show (mr + 1).natAbs < 1024; omega)
    · have : n < mr + 1 := n1
      omega
    · have : n < mr + 1 := n1
      omega
    have n2 : n < mr + 1 := n1
    have s3 := s2.draw hD3 k3
    have lt3 := lt.keep k3
    have dR := s3.dk.new hR
    have fR := s3.free hR
    have tR : t ≠ R := ne_of_none lt3.at_ hR
    refine lc_range (lo := 0) (n := n.toNat) (fun i H' => ∃ as ls, Std H3 H' d g ∧ Rls ts H' as ls ∧ as.length = i ∧ H' R = some (.lst (as.map V.ref))) ?_ ?_ ?_
    · exact ⟨[], [], (Std.refl s3.dk).new hR, .nil, rfl, upd_same⟩
    · rintro i H4 hi ⟨as, ls, s4, rl, al, eR⟩
      refine ⟨rfl, _, rfl, _, rfl, d, g, t, ts, rfl, s4.dk, lt3.keep s4.kd, ok, fun a l H5 s5 fa ea rok => ?_⟩
      have eR5 := s5.kd _ _ eR dR.1 dR.2
      have s35 := s4.trans s5
      refine ⟨as.map V.ref, eR5, ?_, as ++ [a], ls ++ [l], s35.mut hR dR.1 dR.2, ?_, ?_, ?_⟩
      · rw [List.length_map, al]; exact small1000 (by omega)
      · exact ((rl.keep (Kd.tk s5.kd s4.dk)).snoc ea rok).keep (tk_mut eR5)
      · rw [List.length_append, al]; rfl
      · rw [upd_same, List.map_append]; rfl
    · rintro H4 ⟨as, ls, s4, rl, al, eR⟩
      have lt4 := lt3.keep s4.kd
      refine ⟨fun σ' H' => ∃ as ls, σ' = [some (.ref d), some (.int mt), some (.int mr), some (.ref t), some (.ref R), none] ∧ Std H H' d g ∧ Rls ts H' as ls ∧ as.length = n.toNat ∧ H' R = some (.lst (as.map V.ref)) ∧ Lat H' d g t (ts.map V.str), ?_, ?_⟩
      · have s04 := s3.trans s4
        refine ⟨_, rfl, R, _, rfl, .inl (.of eR), _, _, rfl, rfl, _, rfl, ite2 (fun c => ?_) (fun c => ⟨as, ls, rfl, s04, rl, al, eR, lt4⟩)⟩
        have c1 : (1 : Int) < ((as.map V.ref).length : Int) := of_decide_eq_true c
        rw [List.length_map] at c1
        refine ⟨_, rfl, d, g, 4, rfl, s04.dk, by decide, by decide +kernel, fun e H5 e0 e1 hD5 k5 => ⟨rfl, _, rfl, ?_⟩⟩
        have s05 := s04.draw hD5 k5
        have eR5 := k5 _ _ eR dR.1 dR.2
        have rl5 := rl.keep (Kd.tk k5 s04.dk)
        refine ite2 (fun c => ?_) (fun c => ⟨as, ls, rfl, s05, rl5, al, eR5, lt4.keep k5⟩)
        have h0 : as[0]? = some as[0] := List.getElem?_eq_getElem (by omega)
        obtain ⟨l, hl, ea, rok⟩ := rl5.at h0
        refine ⟨_, rfl, R, _, _, V.ref as[0], rfl, rfl, .of eR5, atI_nat (j := 0) (by rw [List.getElem?_map, h0]; rfl), _, rfl, _, rfl, R, as.map V.ref, _, as.length - 1, rfl, rfl, eR5, ?_, as.set (as.length - 1) as[0], ls.set (as.length - 1) l, rfl, s05.mut fR dR.1 dR.2, ?_, ?_, ?_, ?_⟩
        · have := ixN_last (n := (as.map V.ref).length) (by rw [List.length_map]; omega)
          rw [List.length_map] at this ⊢
          exact this
        · exact (Rls.set ea rok _ rl5).keep (tk_mut eR5)
        · rw [List.length_set, al]
        · rw [upd_same, List.map_set]
        · exact ⟨by rw [upd_ne tR]; exact (lt4.keep k5).at_, lt4.nd, lt4.ng⟩
      · rintro σ H5 ⟨as, ls, rfl, s5, rl, al, eR, lt5⟩
        refine ⟨_, rfl, _, rfl, (by show 2 ≤ sizeLine; decide), fun u hu => ?_⟩
        have su := same_upd (o := .tup [.ref t, .ref R]) hu
        exact k u t R ts as ls _ (s5.new hu) ft0 fR upd_same (lt5.keep (Same.kd su)) ⟨su _ _ eR, dR.1, dR.2⟩ tR (rl.keep (Same.tk su)) ok (by omega) (by omega)
/-! ### data as wholes -/
theorem nm_ok {z : Str} (h : Nm z) : PyData.canLay0 (.str z) = true := by
  simp only [PyData.canLay0, PyData.strOk, Array.all_eq_true, decide_eq_true_eq]
  intro i hi
  have hm : z.cps[i] ∈ z.cps.toList := by simp
  have := h.low _ hm
  omega
theorem kd_ok : ∀ z ∈ two ++ six, PyData.canLay0 (.str z) = true := by decide +kernel
theorem rule_ok {ts l : List Str} (ok : TasksOk ts) (h : RuleOk ts l) : ∀ z ∈ l, PyData.canLay0 (.str z) = true := by
  rcases h with ⟨k, x, h1, h2, rfl⟩ | ⟨k, x, y, h1, h2, h3, _, rfl⟩
  · intro z hz
    simp only [List.mem_cons, List.not_mem_nil, or_false] at hz
    rcases hz with rfl | rfl
    · exact kd_ok _ (List.mem_append_left _ h1)
    · exact nm_ok (ok.nm _ h2)
  · intro z hz
    simp only [List.mem_cons, List.not_mem_nil, or_false] at hz
    rcases hz with rfl | rfl | rfl
    · exact kd_ok _ (List.mem_append_right _ h1)
    · exact nm_ok (ok.nm _ h2)
    · exact nm_ok (ok.nm _ h3)
theorem lay_strs : ∀ {ss : List Str}, (∀ z ∈ ss, PyData.canLay0 (.str z) = true) → PyData.canLayAll0 (ss.map PyData.str) = true
  | [], _ => rfl
  | a :: r, h => by
    show (PyData.canLay0 (.str a) && PyData.canLayAll0 (r.map PyData.str)) = true
    rw [h a List.mem_cons_self, lay_strs fun z hz => h z (List.mem_cons_of_mem _ hz)]
    rfl
theorem depth_strs : ∀ (ss : List Str), PyData.depthAll (ss.map PyData.str) ≤ 1
  | [] => by simp [PyData.depthAll]
  | a :: r => by
    have := depth_strs r
    simp only [List.map_cons, PyData.depthAll, PyData.depth]
    omega
theorem dp_strs {H : Hp} : ∀ {ss : List Str}, DpAll K H (ss.map V.str) (ss.map PyData.str)
  | [] => .nil
  | _ :: _ => .cons (.str _) dp_strs
def tdata (ts : List Str) : PyData := .list (ts.map PyData.str)
def rdata (l : List Str) : PyData := .tuple (l.map PyData.str)
def rsdata (ls : List (List Str)) : PyData := .list (ls.map rdata)
theorem tdata_ok {ts : List Str} (ok : TasksOk ts) : SeqAt.shaped (tdata ts) = true := by
  unfold SeqAt.shaped
  rw [Bool.and_eq_true]
  have h := depth_strs ts
  exact ⟨lay_strs fun z hz => nm_ok (ok.nm z hz), decide_eq_true (by simp only [tdata, PyData.depth]; omega)⟩
theorem lay_rules {ts : List Str} (ok : TasksOk ts) : ∀ {ls : List (List Str)}, (∀ l ∈ ls, RuleOk ts l) → PyData.canLayAll0 (ls.map rdata) = true
  | [], _ => rfl
  | l :: r, h => by
    show (PyData.canLayAll0 (l.map PyData.str) && PyData.canLayAll0 (r.map rdata)) = true
    rw [lay_strs (rule_ok ok (h l List.mem_cons_self)), lay_rules ok fun z hz => h z (List.mem_cons_of_mem _ hz)]
    rfl
theorem depth_rules : ∀ (ls : List (List Str)), PyData.depthAll (ls.map rdata) ≤ 2
  | [] => by simp [PyData.depthAll]
  | l :: r => by
    have h1 := depth_rules r
    have h2 := depth_strs l
    show PyData.depthAll (PyData.tuple (l.map PyData.str) :: r.map rdata) ≤ 2
    simp only [PyData.depthAll, PyData.depth]
    omega
theorem rsdata_ok {ts : List Str} (ok : TasksOk ts) {ls : List (List Str)} (h : ∀ l ∈ ls, RuleOk ts l) : SeqAt.shaped (rsdata ls) = true := by
  unfold SeqAt.shaped
  rw [Bool.and_eq_true]
  have h2 := depth_rules ls
  exact ⟨lay_rules ok h, decide_eq_true (by simp only [rsdata, PyData.depth]; omega)⟩
theorem Rls.dp {ts : List Str} {H : Hp} : ∀ {as : List Addr} {ls : List (List Str)}, Rls ts H as ls → DpAll K H (as.map V.ref) (ls.map rdata)
  | _, _, .nil => .nil
  | _, _, .cons h _ r => .cons (.tup (.of h) dp_strs) r.dp
theorem Rls.all {ts : List Str} {H : Hp} : ∀ {as : List Addr} {ls : List (List Str)}, Rls ts H as ls → ∀ l ∈ ls, RuleOk ts l
  | _, _, .nil, l, h => absurd h List.not_mem_nil
  | _, _, .cons _ n r, l, h => by
    rcases List.mem_cons.mp h with e | h
    · rw [e]; exact n
    · exact r.all l h
/-- the rules ls stand in the list r -/
def Rl (ts : List Str) (H : Hp) (d g r : Addr) (ls : List (List Str)) : Prop := ∃ as, Lat H d g r (as.map V.ref) ∧ Rls ts H as ls
theorem Rl.keep {ts : List Str} {H H' : Hp} {d g r : Addr} {ls : List (List Str)} (h : Rl ts H d g r ls) (hD : Deck H d g) (k : Kd d g H H') : Rl ts H' d g r ls := by
  obtain ⟨as, h1, h2⟩ := h
  exact ⟨as, h1.keep k, h2.keep (Kd.tk k hD)⟩
/-- a book stands at b -/
def Bk (C : Addr) (H : Hp) (d g b : Addr) (ts : List Str) (ls : List (List Str)) : Prop := ∃ dx t r, H b = some (.ins C dx (fl t r)) ∧ Lat H d g t (ts.map V.str) ∧ Rl ts H d g r ls
theorem Bk.keep {C : Addr} {ts : List Str} {H H' : Hp} {d g b : Addr} {ls : List (List Str)} (h : Bk C H d g b ts ls) (hD : Deck H d g) (k : Kd d g H H') : Bk C H' d g b ts ls := by
  obtain ⟨dx, t, r, h1, h2, h3⟩ := h
  obtain ⟨gs, a, m, e1, e2, _⟩ := id hD
  exact ⟨dx, t, r, k _ _ h1 (ne_of h1 e1 (by intro z; cases z)) (ne_of h1 e2 (by intro z; cases z)), h2.keep k, h3.keep hD k⟩
theorem small_log2 {m : Int} (h : m.natAbs < 2048) : m.natAbs.log2 < 9000 := by
  have h1 : m.natAbs.log2 < 11 := PySem.Flt.log2_lt_of (by decide) h
  omega
theorem iteEq {x : Bool} {A B : Prop} (h : x = true) (hB : B) : if (!x) = true then A else B := by
  rw [h]
  exact iteF hB
/-- a book at b: its data anywhere -/
def BkR (K : PySem.W.Frag) (C : Addr) (H : Hp) (b : Addr) (ts : List Str) (ls : List (List Str)) : Prop := ∃ (dx t r : Addr) (as : List Addr), H b = some (.ins C dx (fl t r)) ∧ H t = some (.lst (ts.map V.str)) ∧ H r = some (.lst (as.map V.ref)) ∧ Rls ts H as ls
/-! ### books out of books -/
def PostB (C : Addr) (H : Hp) (ts : List Str) (ls : List (List Str)) (Q : VK) : Prop := ∀ (x dx p q : Addr) (as : List Addr) (H' : Hp), Same H H' → H p = none → H q = none → H' x = some (.ins C dx (fl p q)) → H' p = some (.lst (ts.map V.str)) → H' q = some (.lst (as.map V.ref)) → Rls ts H' as ls → Q (.ref x) H'
theorem mkB {C : Addr} {H H1 : Hp} {t D : Addr} {ts : List Str} {bs : List Addr} {ls : List (List Str)} {R : Addr → Hp → Prop} {E : XK} (sm : Same H H1) (ht : H1 t = some (.lst (ts.map V.str))) (eD : H1 D = some (.lst (bs.map V.ref))) (rb : Rls ts H1 bs ls) (ok : TasksOk ts) (k : ∀ (x dx p q : Addr) (as : List Addr) (H' : Hp), Same H H' → H p = none → H q = none → H' x = some (.ins C dx (fl p q)) → H' p = some (.lst (ts.map V.str)) → H' q = some (.lst (as.map V.ref)) → Rls ts H' as ls → R x H') :
    ∀ x dx, H1 x = none → H1 dx = none → dx ≠ x → sp_init K C [.ref x, .ref t, .ref D] (upd (upd H1 dx (.own x)) x (.ins C dx [])) (fun v H' => v = V.non ∧ R x H') E := by
  have sq : ∀ {H : Hp} {x dx b : Addr} {o : HO}, H x = none → H dx = none → H b = some o → (upd (upd H dx (.own x)) x (.ins C dx [])) b = some o := fun hx hdx e => by
    rw [upd_ne (ne_of_none e hx), upd_ne (ne_of_none e hdx)]; exact e
  refine fun x dx hx hdx ne => ⟨x, dx, t, D, ts, bs, rfl, upd_same, .of (sq hx hdx ht), .of (sq hx hdx eD), ok, fun u hu => ?_, fun p q H2 fp fq ex ep eq kp => ⟨rfl, ?_⟩⟩
  · obtain ⟨l, e, h⟩ := rb.mem hu
    exact ⟨l, .of (sq hx hdx e), h⟩
  have s2 : Same H1 H2 := Same.made hx hdx kp
  have free : ∀ {p : Addr}, (upd (upd H1 dx (.own x)) x (.ins C dx [])) p = none → H1 p = none := fun {p} f => by
    cases h : H1 p with
    | none => rfl
    | some o =>
      rw [sq hx hdx h] at f
      cases f
  exact k x dx p q bs H2 (sm.trans s2) (sm.free (free fp)) (sm.free (free fq)) ex ep eq (rb.keep (Same.tk s2))
theorem Rls.take {ts : List Str} {H : Hp} : ∀ {as : List Addr} {ls : List (List Str)} (n : Nat), Rls ts H as ls → Rls ts H (as.take n) (ls.take n)
  | _, _, 0, _ => by simpa using Rls.nil
  | _, _, _ + 1, .nil => .nil
  | _, _, n + 1, .cons h k r => .cons h k (r.take n)
theorem Rls.drop {ts : List Str} {H : Hp} : ∀ {as : List Addr} {ls : List (List Str)} (n : Nat), Rls ts H as ls → Rls ts H (as.drop n) (ls.drop n)
  | _, _, 0, r => by simpa using r
  | _, _, _ + 1, .nil => .nil
  | _, _, n + 1, .cons _ _ r => r.drop n
theorem Rls.app {ts : List Str} {H : Hp} {bs : List Addr} {ms : List (List Str)} (h2 : Rls ts H bs ms) : ∀ {as : List Addr} {ls : List (List Str)}, Rls ts H as ls → Rls ts H (as ++ bs) (ls ++ ms)
  | _, _, .nil => h2
  | _, _, .cons h n r => .cons h n (h2.app r)
def sp_with (K : PySem.W.Frag) (C : Addr) : Sp := fun vs H Q _ => ∃ (b r : Addr) (ts : List Str) (ls ms : List (List Str)) (as : List Addr), vs = [.ref b, .ref r] ∧ BkR K C H b ts ls ∧ H r = some (.lst (as.map V.ref)) ∧ Rls ts H as ms ∧ TasksOk ts ∧ ls.length ≤ 400 ∧ ms.length ≤ 400 ∧ PostB C H ts (ls ++ ms) Q
theorem ok_Book_with_rules (T : Tx K w mg) : FnOk P w K mg base CX0 5 T.f_Book_with_rules T.d_Book_with_rules ["self", "rules"] (sp_with K T.C_Book) := by
  refine T.F_Book_with_rules.ok sc_Book_with_rules (fun vs H Q E h => ?_) (fun cdv A outer s H vs Q E hr h => ?_)
  · obtain ⟨b, r, ts, ls, ms, as, rfl, _⟩ := h
    rfl
  · obtain ⟨b, r, ts, ls, ms, as, rfl, ⟨bx, t, br, bs, hb, ht, hR, rls⟩, hr', rms, ok, f1, f2, k⟩ := h
    refine ⟨_,
    (pss_one
      (ps_ret (pe_make T.mk_Book (ok_Book_init T) hr (by rfl) T.mg_Book T.b_Book_init .nil pass0 (pa_cons (pe_fld (pv 0) rfl) (pa_cons (pe_op op_cat (pe_fld (pv 0) rfl) (pv 1)) pa_nil))))), ?_⟩
    have l1 := rls.len
    have l2 := rms.len
    refine ⟨_, rfl, b, T.C_Book, bx, _, _, rfl, hb, T.cl_Book, T.n_Book_tasks, fl_t t br, _, rfl, b, T.C_Book, bx, _, _, rfl, hb, T.cl_Book, T.n_Book_rules, fl_r t br, _, rfl, br, r, _, _, rfl, rfl, hR, hr', ?_, fun p hp => ?_⟩
    · rw [List.length_map, List.length_map]; exact Nat.le_of_lt (small1000 (by omega))
    have sp := same_upd (o := .lst (bs.map V.ref ++ as.map V.ref)) hp
    exact mkB sp (sp _ _ ht) (by rw [upd_same, ← List.map_append]) ((rms.keep (Same.tk sp)).app (rls.keep (Same.tk sp))) ok k
theorem kit_own {K : PySem.W.Frag} {C : Addr} {n : String} {ms : List String} {t : Value} {b : Bool} (hm : PySem.W.mroIn K C t = some b) (ht : PySem.W.typeIn K (.ref C) = some (.type "type")) (e : fastBuiltinMro n = some (ms.map Value.type)) : PySem.W.kitOne K (.type n) (.ref C) = some false := by
  have hc : (PySem.W.clsIn K C).isSome = true := by
    cases h : PySem.W.clsIn K C with
    | some _ => rfl
    | none =>
      unfold PySem.W.mroIn at hm
      rw [h] at hm
      cases hm
  unfold PySem.W.kitOne
  rw [if_neg (by simp)]
  show (if ((PySem.W.clsIn K C).isSome && PySem.W.typeIn K (.ref C) == some (.type "type")) = true then PySem.W.subIn K (.type n) (.ref C) else none) = some false
  rw [if_pos (by rw [hc, ht]; decide)]
  exact sub_builtin e
theorem kind_ty {K : PySem.W.Frag} {H : Hp} {C : Addr} {z : V} {t : Value} {b : Bool} (hz : Kind H z) (hm : PySem.W.mroIn K C t = some b) (ht : PySem.W.typeIn K (.ref C) = some (.type "type")) : ∃ tz, TyOf K H z tz ∧ PySem.W.kitOne K tz (.ref C) = some false := by
  rcases hz with rfl | ⟨i, rfl⟩ | ⟨x, rfl⟩ | ⟨a, xs, rfl, e⟩ | ⟨a, xs, rfl, e⟩
  · exact ⟨_, .non, kit_own (ms := ["NoneType", "object"]) hm ht (by decide +kernel)⟩
  · exact ⟨_, .int i, kit_own (ms := ["int", "object"]) hm ht (by decide +kernel)⟩
  · exact ⟨_, .str x, kit_own (ms := ["str", "object"]) hm ht (by decide +kernel)⟩
  · exact ⟨_, .lst e, kit_own (ms := ["list", "object"]) hm ht (by decide +kernel)⟩
  · exact ⟨_, .tup e, kit_own (ms := ["tuple", "object"]) hm ht (by decide +kernel)⟩
def sp_beq (K : PySem.W.Frag) (C : Addr) : Sp := fun vs H Q _ => ∃ (a : Addr) (z : V) (ts : List Str) (ls : List (List Str)), vs = [.ref a, z] ∧ BkR K C H a ts ls ∧ TasksOk ts ∧
  ((Kind H z ∧ Q (.bl false) H) ∨ ∃ (b : Addr) (us : List Str) (ms : List (List Str)), z = .ref b ∧ BkR K C H b us ms ∧ TasksOk us ∧ Q (.bl (PyData.eqv (tdata ts) (tdata us) && PyData.eqv (rsdata ls) (rsdata ms))) H)
theorem ok_Book_eq (T : Tx K w mg) : FnOk P w K mg base CX0 1 T.f_Book_eq T.d_Book_eq ["self", "other"] (sp_beq K T.C_Book) := by
  refine T.F_Book_eq.ok sc_Book_eq (fun vs H Q E h => ?_) (fun cdv A outer s H vs Q E hr h => ?_)
  · obtain ⟨a, z, ts, ls, rfl, _⟩ := h
    rfl
  · obtain ⟨a, z, ts, ls, rfl, ⟨ax, at1, ar, as, ha, hat, har, rla⟩, oka, h⟩ := h
    refine ⟨_,
    (pss_one
      (ps_ret (pe_and (pe_callB call_isi (by rfl) T.m_isinstance (by decide +kernel) (pa_cons (pv 1) (pa_cons (pe_glob (v := .ref T.C_Book) (by rfl) T.mg_Book rfl) pa_nil))) (pe_and (pe_cmpR (op_eqD hr.units) (pe_fld (pv 0) rfl) (pe_fld (pv 1) rfl) (nomark _)) (pe_one (pe_cmpR (op_eqD hr.units) (pe_fld (pv 0) rfl) (pe_fld (pv 1) rfl) (nomark _))))))), ?_⟩
    have self : PySem.W.kitOne K (.ref T.C_Book) (.ref T.C_Book) = some true := if_pos (beq_self_eq_true _)
    rcases h with ⟨hz, k⟩ | ⟨b, us, ms, rfl, ⟨bx, bt, br, bs, hb, hbt, hbr, rlb⟩, okb, k⟩
    · obtain ⟨tz, ty, kt⟩ := kind_ty hz T.xm_Book T.tc_Book
      refine ⟨_, rfl, _, _, _, _, false, rfl, .own T.C_Book, .base ty, kt, _, rfl, ?_⟩
      exact k
    · refine ⟨_, rfl, _, _, _, _, true, rfl, .own T.C_Book, .base (.ins hb T.cl_Book T.xa_Book T.xn_Book T.xt_Book T.xm_Book), self, _, rfl, ?_⟩
      have oa := rsdata_ok oka rla.all
      have ob := rsdata_ok okb rlb.all
      refine ⟨_, rfl, a, T.C_Book, ax, _, _, rfl, ha, T.cl_Book, T.n_Book_tasks, fl_t at1 ar, _, rfl, b, T.C_Book, bx, _, _, rfl, hb, T.cl_Book, T.n_Book_tasks, fl_t bt br, tdata ts, tdata us, .lst (.of hat) dp_strs, .lst (.of hbt) dp_strs, tdata_ok oka, tdata_ok okb, _, rfl, ite2 (fun c => ?_) (fun c => ?_)⟩
      · refine ⟨_, rfl, a, T.C_Book, ax, _, _, rfl, ha, T.cl_Book, T.n_Book_rules, fl_r at1 ar, _, rfl, b, T.C_Book, bx, _, _, rfl, hb, T.cl_Book, T.n_Book_rules, fl_r bt br, rsdata ls, rsdata ms, .lst (.of har) rla.dp, .lst (.of hbr) rlb.dp, oa, ob, ?_⟩
        rw [c, Bool.true_and] at k
        exact k
      · rw [Bool.eq_false_iff.mpr c, Bool.false_and] at k
        exact k
theorem eqvAll_strs : ∀ r s : List Str, PyData.eqvAll (r.map PyData.str) (s.map PyData.str) = decide (r = s)
  | [], [] => by simp [PyData.eqvAll]
  | [], _ :: _ => by simp [PyData.eqvAll]
  | _ :: _, [] => by simp [PyData.eqvAll]
  | x :: r, y :: s => by
    rw [List.map_cons, List.map_cons]
    show (x == y && PyData.eqvAll (r.map PyData.str) (s.map PyData.str)) = decide (x :: r = y :: s)
    rw [eqvAll_strs r s]
    by_cases c : x = y
    · by_cases d : r = s
      · simp [c, d]
      · simp [c, d]
    · simp [c]
theorem eqvAll_rules : ∀ r s : List (List Str), PyData.eqvAll (r.map rdata) (s.map rdata) = decide (r = s)
  | [], [] => by simp [PyData.eqvAll]
  | [], _ :: _ => by simp [PyData.eqvAll]
  | _ :: _, [] => by simp [PyData.eqvAll]
  | x :: r, y :: s => by
    rw [List.map_cons, List.map_cons]
    show (PyData.eqvAll (x.map PyData.str) (y.map PyData.str) && PyData.eqvAll (r.map rdata) (s.map rdata)) = decide (x :: r = y :: s)
    rw [eqvAll_rules r s, eqvAll_strs x y]
    by_cases c : x = y
    · by_cases d : r = s
      · simp [c, d]
      · simp [c, d]
    · simp [c]
theorem eqv_td (ts us : List Str) : PyData.eqv (tdata ts) (tdata us) = decide (ts = us) := eqvAll_strs ts us
theorem eqv_rs (ls ms : List (List Str)) : PyData.eqv (rsdata ls) (rsdata ms) = decide (ls = ms) := eqvAll_rules ls ms
def Cmp2 (K : PySem.W.Frag) (C : Addr) (H : Hp) (a : Addr) (z : V) (due : Bool) : Prop := ∃ ts ls, BkR K C H a ts ls ∧ TasksOk ts ∧ ((Kind H z ∧ due = false) ∨ ∃ (b : Addr) (us : List Str) (ms : List (List Str)), z = .ref b ∧ BkR K C H b us ms ∧ TasksOk us ∧ due = (decide (ts = us) && decide (ls = ms)))
theorem Kind.same {H H' : Hp} {z : V} (h : Kind H z) (s : Same H H') : Kind H' z := by
  rcases h with h | h | h | ⟨a, xs, h1, h2⟩ | ⟨a, xs, h1, h2⟩
  · exact .inl h
  · exact .inr (.inl h)
  · exact .inr (.inr (.inl h))
  · exact .inr (.inr (.inr (.inl ⟨a, xs, h1, s _ _ h2⟩)))
  · exact .inr (.inr (.inr (.inr ⟨a, xs, h1, s _ _ h2⟩)))
theorem BkR.same {K : PySem.W.Frag} {C : Addr} {H H' : Hp} {c : Addr} {ts : List Str} {ls : List (List Str)} (h : BkR K C H c ts ls) (s : Same H H') : BkR K C H' c ts ls := by
  obtain ⟨dx, t, r, as, h1, h2, h3, h4⟩ := h
  exact ⟨dx, t, r, as, s _ _ h1, s _ _ h2, s _ _ h3, h4.keep (Same.tk s)⟩
theorem Cmp2.same {K : PySem.W.Frag} {C : Addr} {H H' : Hp} {a : Addr} {z : V} {due : Bool} (h : Cmp2 K C H a z due) (s : Same H H') : Cmp2 K C H' a z due := by
  obtain ⟨ts, ls, h1, ok, h2⟩ := h
  refine ⟨ts, ls, h1.same s, ok, ?_⟩
  rcases h2 with ⟨h3, h4⟩ | ⟨b, us, ms, h3, h4, ok2, h5⟩
  · exact .inl ⟨h3.same s, h4⟩
  · exact .inr ⟨b, us, ms, h3, h4.same s, ok2, h5⟩
theorem BkR.ins {K : PySem.W.Frag} {C : Addr} {H : Hp} {c : Addr} {ts : List Str} {ls : List (List Str)} (h : BkR K C H c ts ls) : ∃ dx fs, H c = some (.ins C dx fs) := by
  obtain ⟨dx, t, r, as, h1, _⟩ := h
  exact ⟨dx, _, h1⟩
theorem Cmp2.run {K : PySem.W.Frag} {C : Addr} {H : Hp} {a : Addr} {z : V} {due : Bool} {Q : V → Hp → Prop} {E : XK} (h : Cmp2 K C H a z due) (k : Q (.bl due) H) : sp_beq K C [.ref a, z] H Q E := by
  obtain ⟨ts, ls, h1, ok, h2⟩ := h
  refine ⟨a, z, ts, ls, rfl, h1, ok, ?_⟩
  rcases h2 with ⟨h3, rfl⟩ | ⟨b, us, ms, h3, h4, ok2, rfl⟩
  · exact .inl ⟨h3, k⟩
  · exact .inr ⟨b, us, ms, h3, h4, ok2, by rw [eqv_td, eqv_rs]; exact k⟩
theorem Cmp2.one {K : PySem.W.Frag} {C : Addr} {H : Hp} {a : Addr} {z : V} {due : Bool} (h : Cmp2 K C H a z due) : CmpTwo C (.ref a) z H a z := by
  obtain ⟨ts, ls, h1, ok, h2⟩ := h
  refine ⟨h1.ins, .inl ⟨rfl, rfl, ?_⟩⟩
  rcases h2 with ⟨h3, _⟩ | ⟨b, us, ms, h3, h4, _⟩
  · exact .inl h3
  · obtain ⟨dy, gs, e⟩ := h4.ins
    exact .inr ⟨b, dy, gs, h3, e⟩
/-- the other way round -/
theorem Cmp2.two {K : PySem.W.Frag} {C : Addr} {H : Hp} {a : Addr} {z : V} {due : Bool} (h : Cmp2 K C H a z due) : ∃ a' z', CmpTwo C z (.ref a) H a' z' ∧ Cmp2 K C H a' z' due := by
  obtain ⟨ts, ls, h1, ok, h2⟩ := h
  rcases h2 with ⟨h3, h4⟩ | ⟨b, us, ms, rfl, h4, ok2, h5⟩
  · exact ⟨a, z, ⟨h1.ins, .inr ⟨rfl, rfl, h3⟩⟩, ts, ls, h1, ok, .inl ⟨h3, h4⟩⟩
  · obtain ⟨dy, gs, e⟩ := h1.ins
    refine ⟨b, .ref a, ⟨h4.ins, .inl ⟨rfl, rfl, .inr ⟨a, dy, gs, rfl, e⟩⟩⟩, us, ms, h4, ok2, .inr ⟨a, ts, ls, rfl, h1, ok, ?_⟩⟩
    rw [h5, decide_eq_decide.mpr (eq_comm (a := ts) (b := us)), decide_eq_decide.mpr (eq_comm (a := ls) (b := ms))]
theorem Cmp2.eq12 {K : PySem.W.Frag} {C : Addr} {H : Hp} {a : Addr} {z : V} {due : Bool} {Q : V → Hp → Prop} (h : Cmp2 K C H a z due) (k : Q (.bl due) H) : rEqAny C (sp_beq K C) (.ref a) z H Q := ⟨a, z, h.one, h.run k⟩
theorem Cmp2.eq21 {K : PySem.W.Frag} {C : Addr} {H : Hp} {a : Addr} {z : V} {due : Bool} {Q : V → Hp → Prop} (h : Cmp2 K C H a z due) (k : Q (.bl due) H) : rEqAny C (sp_beq K C) z (.ref a) H Q := by
  obtain ⟨a', z', h1, h2⟩ := h.two
  exact ⟨a', z', h1, h2.run k⟩
theorem Cmp2.ne12 {K : PySem.W.Frag} {C : Addr} {H : Hp} {a : Addr} {z : V} {due : Bool} {Q : V → Hp → Prop} (h : Cmp2 K C H a z due) (k : Q (.bl (!due)) H) : rNeAny C (sp_beq K C) (.ref a) z H Q := ⟨a, z, h.one, h.run ⟨due, rfl, k⟩⟩
theorem Cmp2.ne21 {K : PySem.W.Frag} {C : Addr} {H : Hp} {a : Addr} {z : V} {due : Bool} {Q : V → Hp → Prop} (h : Cmp2 K C H a z due) (k : Q (.bl (!due)) H) : rNeAny C (sp_beq K C) z (.ref a) H Q := by
  obtain ⟨a', z', h1, h2⟩ := h.two
  exact ⟨a', z', h1, h2.run ⟨due, rfl, k⟩⟩
theorem bools_ok (x y : Bool) : SeqAt.shaped (.list [.bool x, .bool y]) = true := by cases x <;> cases y <;> decide
theorem dp_bools {K : PySem.W.Frag} {H : Hp} {a : Addr} {x y : Bool} (e : H a = some (.lst [.bl x, .bl y])) : Dp K H (.ref a) (.list [.bool x, .bool y]) := .lst (.of e) (.cons (.bl _) (.cons (.bl _) .nil))
def sp_compared (K : PySem.W.Frag) (C : Addr) : Sp := fun vs H Q _ => ∃ (a : Addr) (z : V) (due : Bool), vs = [.ref a, z, .bl due] ∧ Cmp2 K C H a z due ∧ ∀ H', Same H H' → Q (.bl true) H'
theorem ok_law_compared (T : Tx K w mg) : FnOk P w K mg base CX0 3 T.f_law_compared T.d_law_compared ["one", "two", "due"] (sp_compared K T.C_Book) := by
  refine T.F_law_compared.ok sc_law_compared (fun vs H Q E h => ?_) (fun cdv A outer s H vs Q E hr h => ?_)
  · obtain ⟨a, z, due, rfl, _⟩ := h
    rfl
  · obtain ⟨a, z, due, rfl, h2, k⟩ := h
    refine ⟨_,
    (pss_cons
      (ps_set (i := 3) sc_law_compared.nd rfl (.inl rfl) (pe_lst (pa_cons (pe_cmpR (op_eqAny T.cm_Book T.me_Book_eq (ok_Book_eq T) (hr.mono (by decide)) T.b_Book_eq) (pv 0) (pv 1) (nomark _)) (pa_cons (pe_cmpR (op_eqAny T.cm_Book T.me_Book_eq (ok_Book_eq T) (hr.mono (by decide)) T.b_Book_eq) (pv 1) (pv 0) (nomark _)) pa_nil))))
    (pss_cons
      (ps_set (i := 4) sc_law_compared.nd rfl (.inl rfl) (pe_lst (pa_cons (pe_cmpR (op_neAny T.cm_Book T.me_Book_eq (ok_Book_eq T) hr T.b_Book_eq) (pv 0) (pv 1) (nomark _)) (pa_cons (pe_cmpR (op_neAny T.cm_Book T.me_Book_eq (ok_Book_eq T) hr T.b_Book_eq) (pv 1) (pv 0) (nomark _)) pa_nil))))
    (pss_cons
      (ps_if (pt_not (pt_val (pe_callB (cr_all rfl) (by rfl) T.m_all (by decide +kernel) (pa_cons (pe_lc (own := [("answer", 5)]) (g := gName 5) rfl sc_law_compared.nd (pi_list (pe_op op_cat (pv 3) (pv 4))) (blkOk_by (N := ["one", "two", "due", "told", "unlike", "answer"]) (sc := defScope s_law_compared) (own := [("answer", 5)]) (by decide +kernel)) (fun _ _ _ _ _ => (pg_name (i := 5) sc_law_compared.nd rfl (.inl rfl))) (fun _ _ _ _ _ => pts_nil) (fun _ _ _ _ _ => (pe_callB (id := "isinstance") (r := rIsi K) call_isi (by rfl) T.m_isinstance (by decide +kernel) (pa_cons (pv 5) (pa_cons (pe_bltn (v := .ty "bool") (by rfl) T.m_bool (by decide +kernel) rfl) pa_nil))))) pa_nil))))
        (pss_one
          (ps_ret pe_bl))
        pss_nil)
    (pss_one
      (ps_ret (pe_and (pe_cmpR (op_eqD hr.units) (pv 3) (pe_lst (pa_cons (pv 2) (pa_cons (pv 2) pa_nil))) (nomark _)) (pe_one (pe_cmpR (op_eqD hr.units) (pv 4) (pe_lst (pa_cons (pe_not (pv 2)) (pa_cons (pe_not (pv 2)) pa_nil))) (nomark _))))))))), ?_⟩
    refine ⟨_, rfl, _, rfl, h2.eq12 ⟨_, rfl, _, rfl, h2.eq21 ⟨(by show 2 ≤ sizeLine; decide), fun L1 hL1 => ?_⟩⟩⟩
    have s1 := same_upd (o := .lst [.bl due, .bl due]) hL1
    have e1 := upd_same (H := H) (a := L1) (o := .lst [.bl due, .bl due])
    have h3 := h2.same s1
    refine ⟨_, rfl, _, rfl, h3.ne12 ⟨_, rfl, _, rfl, h3.ne21 ⟨(by show 2 ≤ sizeLine; decide), fun L2 hL2 => ?_⟩⟩⟩
    have s2 := s1.trans (same_upd (o := .lst [.bl (!due), .bl (!due)]) hL2)
    have e2 := upd_same (H := upd H L1 (.lst [.bl due, .bl due])) (a := L2) (o := .lst [.bl (!due), .bl (!due)])
    have e12 := same_upd (o := .lst [.bl (!due), .bl (!due)]) hL2 _ _ e1
    generalize upd (upd H L1 (.lst [.bl due, .bl due])) L2 (.lst [.bl (!due), .bl (!due)]) = H2 at s2 e2 e12 ⊢
    clear e1 s1 h3 hL2 hL1
    refine ⟨_, rfl, _, rfl, L1, L2, _, _, rfl, rfl, e12, e2, (by show 4 ≤ sizeLine; decide), fun N hN => ?_⟩
    have s3 := s2.trans (same_upd (o := .lst [.bl due, .bl due, .bl (!due), .bl (!due)]) hN)
    have e13 := same_upd (o := .lst [.bl due, .bl due, .bl (!due), .bl (!due)]) hN _ _ e12
    have e23 := same_upd (o := .lst [.bl due, .bl due, .bl (!due), .bl (!due)]) hN _ _ e2
    have eN := upd_same (H := H2) (a := N) (o := .lst [.bl due, .bl due, .bl (!due), .bl (!due)])
    refine ⟨N, rfl, ⟨_, .of eN⟩, fun D hDn => ?_⟩
    have eD := upd_same (H := upd H2 N (.lst [.bl due, .bl due, .bl (!due), .bl (!due)])) (a := D) (o := .lst [])
    refine lc_list (xs := [.bl due, .bl due, .bl (!due), .bl (!due)]) (fun i H' => H' D = some (.lst ((List.replicate i true).map V.bl)) ∧ Same (upd H2 N (.lst [.bl due, .bl due, .bl (!due), .bl (!due)])) H') ⟨eD, same_upd hDn⟩ (fun i H' _ h => .of (h.2 _ _ eN)) ?_ ?_
    · rintro i v H4 hi ⟨f1, f2⟩
      obtain ⟨b, rfl⟩ : ∃ b, v = V.bl b := by
        have := List.mem_of_getElem? hi
        simp only [List.mem_cons, List.not_mem_nil, or_false] at this
        rcases this with rfl | rfl | rfl | rfl <;> exact ⟨_, rfl⟩
      have hi4 : i < 4 := (List.getElem?_eq_some_iff.mp hi).1
      refine ⟨rfl, _, rfl, _, _, _, _, true, rfl, .ty "bool", .base (.bl b), kit_ty (by decide +kernel), _, f1, ?_, ?_, fun c o e => ?_⟩
      · rw [List.length_map, List.length_replicate]; exact small1000 (by omega)
      · rw [upd_same, List.replicate_succ', List.map_append]; rfl
      · rw [upd_ne (ne_of_none e hDn)]
        exact f2 c o e
    · rintro H4 ⟨f1, f2⟩
      have e14 := f2 _ _ (same_upd (o := .lst [.bl due, .bl due, .bl (!due), .bl (!due)]) hN _ _ e12)
      have e24 := f2 _ _ (same_upd (o := .lst [.bl due, .bl due, .bl (!due), .bl (!due)]) hN _ _ e2)
      refine ⟨D, List.replicate 4 true, rfl, .of f1, _, rfl, ?_⟩
      refine iteEq (by decide) ?_
      have r1 : PyData.eqv (.list [.bool due, .bool due]) (.list [.bool due, .bool due]) = true := by cases due <;> decide
      have r2 : PyData.eqv (.list [.bool (!due), .bool (!due)]) (.list [.bool (!due), .bool (!due)]) = true := by cases due <;> decide
      refine ⟨_, rfl, _, rfl, _, rfl, (by show 2 ≤ sizeLine; decide), fun L3 hL3 => ⟨_, _, dp_bools (same_upd hL3 _ _ e14), dp_bools upd_same, bools_ok _ _, bools_ok _ _, ?_⟩⟩
      rw [r1]
      refine ⟨_, rfl, ?_⟩
      refine iteT ?_
      have sL3 := same_upd (o := .lst [.bl due, .bl due]) hL3
      refine ⟨_, rfl, _, rfl, _, rfl, _, rfl, _, rfl, (by show 2 ≤ sizeLine; decide), fun L4 hL4 => ⟨_, _, dp_bools (same_upd hL4 _ _ (sL3 _ _ e24)), dp_bools upd_same, bools_ok _ _, bools_ok _ _, ?_⟩⟩
      rw [r2]
      exact k _ (((s3.trans f2).trans sL3).trans (same_upd hL4))
theorem RuleOk.more {ts us l : List Str} (s : ∀ z ∈ ts, z ∈ us) (h : RuleOk ts l) : RuleOk us l := by
  rcases h with ⟨k, x, h1, h2, rfl⟩ | ⟨k, x, y, h1, h2, h3, h4, rfl⟩
  · exact .inl ⟨k, x, h1, s _ h2, rfl⟩
  · exact .inr ⟨k, x, y, h1, s _ h2, s _ h3, h4, rfl⟩
theorem Rls.more {ts us : List Str} {H : Hp} (s : ∀ z ∈ ts, z ∈ us) : ∀ {as : List Addr} {ls : List (List Str)}, Rls ts H as ls → Rls us H as ls
  | _, _, .nil => .nil
  | _, _, .cons h n r => .cons h (n.more s) (r.more s)
theorem Rls.app' {ts : List Str} {H : Hp} {as bs : List Addr} {ls ms : List (List Str)} (h1 : Rls ts H as ls) (h2 : Rls ts H bs ms) : Rls ts H (as ++ bs) (ls ++ ms) := Rls.app h2 h1
theorem Rls.eraseIdx {ts : List Str} {H : Hp} {as : List Addr} {ls : List (List Str)} (h : Rls ts H as ls) (i : Nat) : Rls ts H (as.eraseIdx i) (ls.eraseIdx i) := by
  rw [List.eraseIdx_eq_take_drop_succ, List.eraseIdx_eq_take_drop_succ]
  exact (h.take i).app' (h.drop (i + 1))
theorem pick_ok {ts : List Str} (ok : TasksOk ts) {os : List Int} (oin : ∀ o ∈ os, 0 ≤ o ∧ o < (ts.length : Int)) (ol : os.length = ts.length) (nd : os.Nodup) : TasksOk (os.map fun o => ts.getD o.toNat "") ∧ ∀ z ∈ ts, z ∈ os.map fun o => ts.getD o.toNat "" := by
  have g : ∀ o ∈ os, ∃ h : o.toNat < ts.length, ts.getD o.toNat "" = ts[o.toNat] := fun o ho => by
    obtain ⟨h1, h2⟩ := oin o ho
    have h : o.toNat < ts.length := by omega
    exact ⟨h, by rw [List.getD_eq_getElem?_getD, List.getElem?_eq_getElem h]; rfl⟩
  have sub : ∀ z ∈ os.map fun o => ts.getD o.toNat "", z ∈ ts := fun z hz => by
    obtain ⟨o, ho, rfl⟩ := List.mem_map.mp hz
    obtain ⟨h, e⟩ := g o ho
    show ts.getD o.toNat "" ∈ ts
    rw [e]
    exact List.getElem_mem h
  have nd2 : (os.map fun o => ts.getD o.toNat "").Nodup := by
    refine List.pairwise_map.mpr (List.Pairwise.imp_of_mem (fun {a b} ha hb hab => ?_) nd)
    obtain ⟨h1, e1⟩ := g a ha
    obtain ⟨h2, e2⟩ := g b hb
    obtain ⟨a1, a2⟩ := oin a ha
    obtain ⟨b1, b2⟩ := oin b hb
    show ts.getD a.toNat "" ≠ ts.getD b.toNat ""
    rw [e1, e2]
    intro e
    have p := List.pairwise_iff_getElem.mp ok.nd
    rcases Nat.lt_trichotomy a.toNat b.toNat with h | h | h
    · exact p _ _ h1 h2 h e
    · exact hab (by omega)
    · exact p _ _ h2 h1 h e.symm
  have few := ok.few
  refine ⟨⟨fun z => ?_, fun z hz => ok.nm z (sub z hz), nd2, by rw [List.length_map]; omega⟩, fun z hz => ?_⟩
  · have h := congrArg List.length z
    rw [List.length_map] at h
    have : 0 < ts.length := List.length_pos_iff.mpr ok.ne
    simp at h
    rw [h] at ol
    simp at ol
    omega
  · refine Classical.byContradiction fun c => ?_
    have h := nodup_le (List.nodup_cons.mpr ⟨c, nd2⟩) (m := ts) fun x hx => by
      rcases List.mem_cons.mp hx with rfl | h
      · exact hz
      · exact sub x h
    rw [List.length_cons, List.length_map] at h
    omega
theorem ins_ok {ts : List Str} (ok : TasksOk ts) {z : Str} (nz : Nm z) (nin : z ∉ ts) (h : ts.length ≤ 12) (w : Nat) : TasksOk (ts.take w ++ [z] ++ ts.drop w) := by
  have nd := ok.nd
  rw [← List.take_append_drop w ts] at nd
  obtain ⟨a, b, c⟩ := List.nodup_append.mp nd
  refine ⟨by simp, fun y hy => ?_, ?_, ?_⟩
  · rcases List.mem_append.mp hy with h | h
    · rcases List.mem_append.mp h with h | h
      · exact ok.nm y (List.mem_of_mem_take h)
      · rw [List.mem_singleton.mp h]; exact nz
    · exact ok.nm y (List.mem_of_mem_drop h)
  · refine List.nodup_append.mpr ⟨List.nodup_append.mpr ⟨a, List.nodup_cons.mpr ⟨List.not_mem_nil, List.nodup_nil⟩, fun x hx y hy e => ?_⟩, b, fun x hx y hy e => ?_⟩
    · rw [List.mem_singleton.mp hy] at e
      exact nin (e ▸ List.mem_of_mem_take hx)
    · rcases List.mem_append.mp hx with h | h
      · exact c x h y hy e
      · rw [List.mem_singleton.mp h] at e
        exact nin (e ▸ List.mem_of_mem_drop hy)
  · rw [List.length_append, List.length_append, List.length_take, List.length_drop]
    show min w ts.length + 1 + (ts.length - w) ≤ 100
    omega
theorem mem_ins {ts : List Str} {z : Str} (w : Nat) : ∀ y ∈ ts, y ∈ ts.take w ++ [z] ++ ts.drop w := fun y hy => by
  rw [← List.take_append_drop w ts] at hy
  rcases List.mem_append.mp hy with h | h
  · exact List.mem_append.mpr (.inl (List.mem_append.mpr (.inl h)))
  · exact List.mem_append.mpr (.inr h)
theorem erase_ref (as : List Addr) (j : Nat) : (as.map V.ref).eraseIdx j = (as.eraseIdx j).map V.ref := by
  rw [List.eraseIdx_eq_take_drop_succ, List.eraseIdx_eq_take_drop_succ, List.map_append, List.map_take, List.map_drop]
theorem pickS {w : Int} (h0 : 0 ≤ w) (h1 : w < 6) : ∃ m, m ∈ six ∧ (six.map V.str)[w.toNat]? = some (V.str m) := by
  have h : w.toNat < six.length := by show w.toNat < 6; omega
  exact ⟨six[w.toNat], List.getElem_mem h, by rw [List.getElem?_map, List.getElem?_eq_getElem h]; rfl⟩
theorem Std.same {H0 H1 H2 : Hp} {d g : Addr} (s : Std H0 H1 d g) (t : Same H1 H2) : Std H0 H2 d g := ⟨s.dk.same t, s.kd.trans (Same.kd t)⟩
theorem ne_of_none' {H H' : Hp} {D R : Addr} {o o' : HO} (_ : H' R = some o) (_ : H' D = some o') (hD : H D = none) (hR : H R = some o) : D ≠ R := fun z => by rw [z, hR] at hD; cases hD
/-- what _law_changed keeps: T's tasks, R's rules -/
def ChI (H0 H' : Hp) (d g T R : Addr) (mx : Nat) : Prop := ∃ (ts : List Str) (as : List Addr) (ls : List (List Str)), Std H0 H' d g ∧ H' T = some (.lst (ts.map V.str)) ∧ H' R = some (.lst (as.map V.ref)) ∧ Rls ts H' as ls ∧ TasksOk ts ∧ ts.length ≤ 12 ∧ as.length ≤ mx
def sp_changed : Sp := fun vs H Q _ => ∃ (d g t r : Addr) (ts : List Str) (as : List Addr) (ls : List (List Str)), vs = [.ref d, .ref t, .ref r] ∧ Deck H d g ∧ Lat H d g t (ts.map V.str) ∧ Lat H d g r (as.map V.ref) ∧ Rls ts H as ls ∧ TasksOk ts ∧ ts.length ≤ 12 ∧ as.length ≤ 39 ∧
  ∀ (u T R : Addr) (H' : Hp), ChI H H' d g T R 40 → H T = none → H R = none → H' u = some (.tup [.ref T, .ref R]) → Q (.ref u) H'
theorem ok_law_changed (T : Tx K w mg) : FnOk P w K mg base CX0 3 T.f_law_changed T.d_law_changed ["deck", "task_list", "rule_list"] sp_changed := by
  refine T.F_law_changed.ok sc_law_changed (fun vs H Q E h => ?_) (fun cdv A outer s H vs Q E hr h => ?_)
  · obtain ⟨d, g, t, r, ts, as, ls, rfl, _⟩ := h
    rfl
  · obtain ⟨d, g, t, r, ts, as, ls, rfl, hD, lt, lr, rl, okt, tl, al, k⟩ := h
    refine ⟨_,
    (pss_cons
      (ps_set (i := 1) sc_law_changed.nd rfl (.inr rfl) (pe_callTy call_list_of (by rfl) T.m_list (by decide +kernel) (pa_cons (pv 1) pa_nil)))
    (pss_cons
      (ps_set (i := 2) sc_law_changed.nd rfl (.inl rfl) (pe_callTy call_list_of (by rfl) T.m_list (by decide +kernel) (pa_cons (pv 2) pa_nil)))
    (pss_cons
      (ps_set (i := 3) sc_law_changed.nd rfl (.inl rfl) (pe_call (ok_law_draw T) (hr.mono (by decide)) (by rfl) T.g_law_draw T.F_law_draw.kp T.b_law_draw .nil pass0 (pa_cons (pv 0) (pa_cons pe_int pa_nil))))
    (pss_cons
      (ps_set (i := 4) sc_law_changed.nd rfl (.inl rfl) (pe_call (ok_law_draw T) (hr.mono (by decide)) (by rfl) T.g_law_draw T.F_law_draw.kp T.b_law_draw .nil pass0 (pa_cons (pv 0) (pa_cons (pe_op op_add (pe_callB call_len_seq (by rfl) T.m_len (by decide +kernel) (pa_cons (pv 2) pa_nil)) pe_int) pa_nil))))
    (C8.pss_cut
      (ps_if (pt_cmpR op_eq (pv 3) pe_int (nomark _))
        (pss_one
          (ps_set (i := 1) sc_law_changed.nd rfl (.inr rfl) (pe_lc (own := [("one", 7)]) (g := gName 7) rfl sc_law_changed.nd (pi_list (pe_call (ok_law_order T) hr (by rfl) T.g_law_order T.F_law_order.kp T.b_law_order .nil pass0 (pa_cons (pv 0) (pa_cons (pe_callB call_len_seq (by rfl) T.m_len (by decide +kernel) (pa_cons (pv 1) pa_nil)) pa_nil)))) (blkOk_by (N := ["deck", "task_list", "rule_list", "way", "at", "letters", "more", "one", "letter"]) (sc := defScope s_law_changed) (own := [("one", 7)]) (by decide +kernel)) (fun _ _ _ _ _ => (pg_name (i := 7) sc_law_changed.nd rfl (.inl rfl))) (fun _ _ _ _ _ => pts_nil) (fun _ _ _ _ _ => (pe_ix (r := rIxL K) ix_list (pv 1) (pv 7) (fun _ _ => rfl))))))
        pss_nil)
    (C8.pss_cut
      (ps_if (PW.pt (pw_and (pt_cmpR op_eq (pv 3) pe_int (nomark _)) (pw_and1 (pt_cmpR op_lt (pe_callB call_len_seq (by rfl) T.m_len (by decide +kernel) (pa_cons (pv 1) pa_nil)) pe_int (nomark _)))))
        (pss_cons
          (ps_set (i := 5) sc_law_changed.nd rfl (.inl rfl) pe_str)
        (pss_cons
          (ps_setLc (i := 6) (own := [("letter", 8)]) (g := gName 8) rfl sc_law_changed.nd rfl rfl (sw_true rfl rfl rfl (by decide +kernel)) (pi_str (pv 5)) (blkOk_by (N := ["deck", "task_list", "rule_list", "way", "at", "letters", "more", "one", "letter"]) (sc := defScope s_law_changed) (own := [("letter", 8)]) (by decide +kernel)) (fun _ _ _ _ _ => (pg_name (i := 8) sc_law_changed.nd rfl (.inl rfl))) (fun _ _ _ _ _ => (pts_one (pt_cmpR (r := rIn K true) op_notIn_seq (pv 8) (pv 1) (by rfl)))) (fun _ _ _ _ _ => (pv 8)))
        (pss_one
          (ps_expr (pe_bm PySem.F.plainAttrs_list PySem.F.slot_list_insert PySem.F.type_list_insert mt_insert (pv 1) (pa_cons (pe_call (ok_law_draw T) (hr.mono (by decide)) (by rfl) T.g_law_draw T.F_law_draw.kp T.b_law_draw .nil pass0 (pa_cons (pv 0) (pa_cons (pe_op op_add (pe_callB call_len_seq (by rfl) T.m_len (by decide +kernel) (pa_cons (pv 1) pa_nil)) pe_int) pa_nil))) (pa_cons (pe_ix ix_list (pv 6) pe_int (fun _ _ => rfl)) pa_nil)))))))
        pss_nil)
    (C8.pss_cut
      (ps_if (PW.pt (pw_or (pt_cmpR op_eq (pv 3) pe_int (nomark _)) (pw_or1 (pt_cmpR (op_eqD hr.units) (pv 2) (pe_lst pa_nil) (nomark _)))))
        (pss_one
          (ps_expr (pe_bm PySem.F.plainAttrs_list PySem.F.slot_list_insert PySem.F.type_list_insert mt_insert (pv 2) (pa_cons (pv 4) (pa_cons (pe_call (ok_law_rule T) hr (by rfl) T.g_law_rule T.F_law_rule.kp T.b_law_rule .nil pass0 (pa_cons (pv 0) (pa_cons (pv 1) pa_nil))) pa_nil)))))
        pss_nil)
    (C8.pss_cut
      (ps_if (PW.pt (pw_and (pt_cmpR op_eq (pv 3) pe_int (nomark _)) (pw_and1 (pt_cmpR op_lt (pv 4) (pe_callB call_len_seq (by rfl) T.m_len (by decide +kernel) (pa_cons (pv 2) pa_nil)) (nomark _)))))
        (pss_one
          (ps_expr (pe_bm PySem.F.plainAttrs_list PySem.F.slot_list_pop PySem.F.type_list_pop mt_popAt (pv 2) (pa_cons (pv 4) pa_nil))))
        pss_nil)
    (C8.pss_cut
      (ps_if (PW.pt (pw_and (pt_cmpR op_eq (pv 3) pe_int (nomark _)) (pw_and1 (pt_cmpR op_lt (pv 4) (pe_callB call_len_seq (by rfl) T.m_len (by decide +kernel) (pa_cons (pv 2) pa_nil)) (nomark _)))))
        (pss_one
          (ps_expr (pe_bm PySem.F.plainAttrs_list PySem.F.slot_list_insert PySem.F.type_list_insert mt_insert (pv 2) (pa_cons (pe_call (ok_law_draw T) (hr.mono (by decide)) (by rfl) T.g_law_draw T.F_law_draw.kp T.b_law_draw .nil pass0 (pa_cons (pv 0) (pa_cons (pe_callB call_len_seq (by rfl) T.m_len (by decide +kernel) (pa_cons (pv 2) pa_nil)) pa_nil))) (pa_cons (pe_bm PySem.F.plainAttrs_list PySem.F.slot_list_pop PySem.F.type_list_pop mt_popAt (pv 2) (pa_cons (pv 4) pa_nil)) pa_nil)))))
        pss_nil)
    (C8.pss_cut
      (ps_if (PW.pt (pw_and (pt_cmpR op_eq (pv 3) pe_int (nomark _)) (pw_and (pt_cmpR op_lt (pv 4) (pe_callB call_len_seq (by rfl) T.m_len (by decide +kernel) (pa_cons (pv 2) pa_nil)) (nomark _)) (pw_and1 (pt_cmpR op_eq (pe_callB call_len_seq (by rfl) T.m_len (by decide +kernel) (pa_cons (pe_ix ix_list (pv 2) (pv 4) (fun _ _ => rfl)) pa_nil)) pe_int (nomark _))))))
        (pss_one
          (ps_asg (pe_tup (pa_cons (pe_ix ix_tup (pe_ix ix_list (pv 2) (pv 4) (fun _ _ => rfl)) pe_int (fun _ _ => rfl)) (pa_cons (pe_ix ix_tup (pe_ix ix_list (pv 2) (pv 4) (fun _ _ => rfl)) pe_int (fun _ _ => rfl)) (pa_cons (pe_ix ix_tup (pe_ix ix_list (pv 2) (pv 4) (fun _ _ => rfl)) pe_int (fun _ _ => rfl)) pa_nil)))) (pg_sub (pv 2) (pv 4) set_list)))
        pss_nil)
    (C8.pss_cut
      (ps_if (PW.pt (pw_and (pt_cmpR op_eq (pv 3) pe_int (nomark _)) (pw_and (pt_cmpR op_lt (pv 4) (pe_callB call_len_seq (by rfl) T.m_len (by decide +kernel) (pa_cons (pv 2) pa_nil)) (nomark _)) (pw_and1 (pt_cmpR op_eq (pe_callB call_len_seq (by rfl) T.m_len (by decide +kernel) (pa_cons (pe_ix ix_list (pv 2) (pv 4) (fun _ _ => rfl)) pa_nil)) pe_int (nomark _))))))
        (pss_one
          (ps_asg (pe_op op_catT (pe_tup (pa_cons (pe_ix ix_list (pe_lst (pa_cons pe_str (pa_cons pe_str (pa_cons pe_str (pa_cons pe_str (pa_cons pe_str (pa_cons pe_str pa_nil))))))) (pe_call (ok_law_draw T) (hr.mono (by decide)) (by rfl) T.g_law_draw T.F_law_draw.kp T.b_law_draw .nil pass0 (pa_cons (pv 0) (pa_cons pe_int pa_nil))) (fun _ _ => rfl)) pa_nil)) (pe_slice sl_tup (pe_ix ix_list (pv 2) (pv 4) (fun _ _ => rfl)) (po_some pe_int) po_none)) (pg_sub (pv 2) (pv 4) set_list)))
        pss_nil)
    (C8.pss_cut
      (ps_if (PW.pt (pw_and (pt_cmpR op_eq (pv 3) pe_int (nomark _)) (pw_and1 (pt_cmpR op_lt (pv 4) (pe_callB call_len_seq (by rfl) T.m_len (by decide +kernel) (pa_cons (pv 2) pa_nil)) (nomark _)))))
        (pss_one
          (ps_asg (pe_call (ok_law_rule T) hr (by rfl) T.g_law_rule T.F_law_rule.kp T.b_law_rule .nil pass0 (pa_cons (pv 0) (pa_cons (pv 1) pa_nil))) (pg_sub (pv 2) (pv 4) set_list)))
        pss_nil)
    (pss_one
      (ps_ret (pe_tup (pa_cons (pv 1) (pa_cons (pv 2) pa_nil))))))))))))))))), ?_⟩
    refine ⟨_, rfl, t, _, rfl, .inl (.of lt.at_), fun T0 hT0 => ⟨_, rfl, r, _, rfl, .inl (.of (same_upd hT0 _ _ lr.at_)), fun R0 hR0 => ?_⟩⟩
    have sT := same_upd (o := .lst (ts.map V.str)) hT0
    have sR := same_upd (o := .lst (as.map V.ref)) hR0
    have eT := sR _ _ (upd_same (H := H) (a := T0) (o := .lst (ts.map V.str)))
    have eR := upd_same (H := upd H T0 (.lst (ts.map V.str))) (a := R0) (o := .lst (as.map V.ref))
    have fT : H T0 = none := hT0
    have fR : H R0 = none := sT.free hR0
    have TR : T0 ≠ R0 := ne_of_none (upd_same (H := H) (a := T0) (o := .lst (ts.map V.str))) hR0
    have dT := hD.new fT
    have dR := hD.new fR
    have s1 : Std H (upd (upd H T0 (.lst (ts.map V.str))) R0 (.lst (as.map V.ref))) d g := ((Std.refl hD).new hT0).new hR0
    have rl1 := rl.keep (Same.tk (sT.trans sR))
    generalize upd (upd H T0 (.lst (ts.map V.str))) R0 (.lst (as.map V.ref)) = H1 at *
    clear hT0 hR0 sT sR lt lr rl
    refine ⟨_, rfl, d, g, 9, rfl, s1.dk, by decide, by decide +kernel, fun way H2 _ _ hD2 k2 => ?_⟩
    have s2 := s1.draw hD2 k2
    have eT2 := k2 _ _ eT dT.1 dT.2
    have eR2 := k2 _ _ eR dR.1 dR.2
    refine ⟨_, rfl, _, rfl, R0, _, rfl, .inl (.of eR2), _, _, rfl, rfl, d, g, _, rfl, hD2, ?_, ?_, fun at_ H3 a0 a1 hD3 k3 => ?_⟩
    · show (0 : Int) < ((as.map V.ref).length : Int) + 1
      omega
    · exact small_log (by show (((as.map V.ref).length : Int) + 1).natAbs < 1024; rw [List.length_map]; omega)
    have a2 : at_ < ((as.map V.ref).length : Int) + 1 := a1
    rw [List.length_map] at a2
    obtain ⟨at_, rfl⟩ := Int.eq_ofNat_of_zero_le a0
    have a40 : at_ < 1000 := by omega
    have i3 : ChI H H3 d g T0 R0 39 := ⟨ts, as, ls, s2.draw hD3 k3, k3 _ _ eT2 dT.1 dT.2, k3 _ _ eR2 dR.1 dR.2, (rl1.keep (Kd.tk k2 s1.dk)).keep (Kd.tk k3 hD2), okt, tl, al⟩
    clear a0 a1 a2 hD3 k3 eT2 eR2 s2 k2 hD2 rl1 s1 eT eR al tl okt
    clear ts as ls H1 H2
    -- another order
    have i0 := i3
    clear i3
    obtain ⟨ts, as, ls, s, eT, eR, rl, okt, tl, al⟩ := i0
    have dT := hD.new fT
    refine ⟨fun σ H' => ∃ (Tx : Addr) (x5 x6 x7 x8 : Option V), H Tx = none ∧ Tx ≠ R0 ∧ ChI H H' d g Tx R0 39 ∧ σ = [some (.ref d), some (.ref Tx), some (.ref R0), some (.int way), some (.int (at_ : Int)), x5, x6, x7, x8], ⟨_, rfl, rfl, _, rfl, ite2 (fun _ => ?_) (fun _ => ⟨T0, _, _, _, _, fT, TR, ⟨ts, as, ls, s, eT, eR, rl, okt, tl, al⟩, rfl⟩)⟩, ?_⟩
    · refine ⟨_, rfl, _, rfl, T0, _, rfl, .inl (.of eT), d, g, _, rfl, s.dk, by rw [List.length_map]; omega, fun q os H4 s4 fq eq n1 n2 oin ol ond => ⟨q, rfl, ⟨_, .of eq⟩, fun D hDn => ?_⟩⟩
      rw [List.length_map] at oin ol
      have t4 := s.trans s4
      have eT4 := s4.kd _ _ eT dT.1 dT.2
      refine lc_list (xs := os.map V.int) (fun i H' => H' D = some (.lst (((os.take i).map fun o => ts.getD o.toNat "").map V.str)) ∧ Same H4 H') ⟨upd_same, same_upd hDn⟩ (fun i H' _ h => .of (h.2 _ _ eq)) ?_ ?_
      · rintro i v H5 hi ⟨eD, s5⟩
        rw [List.getElem?_map] at hi
        obtain ⟨o, ho, rfl⟩ := Option.map_eq_some_iff.mp hi
        have hil := (List.getElem?_eq_some_iff.mp ho).1
        obtain ⟨o0, o1⟩ := oin o (List.mem_of_getElem? ho)
        have et : os.take (i + 1) = os.take i ++ [o] := by rw [List.take_add_one, ho]; rfl
        have hoN : o.toNat < ts.length := by omega
        have go : (ts.map V.str)[o.toNat]? = some (V.str (ts.getD o.toNat "")) := by rw [List.getElem?_map, List.getD_eq_getElem?_getD, List.getElem?_eq_getElem hoN]; rfl
        refine ⟨rfl, _, rfl, _, rfl, T0, _, _, V.str (ts.getD o.toNat ""), rfl, rfl, .of (s5 _ _ eT4), at_of (j := o.toNat) (by omega) go, _, eD, ?_, ?_, fun b u e => ?_⟩
        · rw [List.length_map, List.length_map, List.length_take]; exact small1000 (by omega)
        · rw [upd_same, et, List.map_append, List.map_append]; rfl
        · rw [upd_ne (ne_of_none e hDn)]
          exact s5 b u e
      · rintro H5 ⟨eD, s5⟩
        rw [List.length_map, List.take_length] at eD
        obtain ⟨ok2, sub⟩ := pick_ok okt oin ol ond
        have t5 := t4.same s5
        have fD := t4.free hDn
        have eR5 := s5 _ _ (s4.kd _ _ eR dR.1 dR.2)
        exact ⟨D, _, _, _, _, fD, ne_of_none' eR5 eD hDn (s4.kd _ _ eR dR.1 dR.2), ⟨_, as, ls, t5, eD, eR5, ((rl.keep (Kd.tk s4.kd s.dk)).keep (Same.tk s5)).more sub, ok2, by rw [List.length_map]; omega, al⟩, rfl⟩
    clear s eT eR rl okt tl al TR dT
    clear dT fT
    clear ts as ls
    clear T0
    rintro σ H4 ⟨T0, x5, x6, x7, x8, fT, TR, i0, rfl⟩
    -- one task more
    obtain ⟨ts, as, ls, s, eT, eR, rl, okt, tl, al⟩ := i0
    have dT := hD.new fT
    refine ⟨fun σ H' => ∃ (Tx : Addr) (x5 x6 x7 x8 : Option V), H Tx = none ∧ Tx ≠ R0 ∧ ChI H H' d g Tx R0 39 ∧ σ = [some (.ref d), some (.ref Tx), some (.ref R0), some (.int way), some (.int (at_ : Int)), x5, x6, x7, x8], ⟨_, rfl, rfl, _, rfl, ite2 (fun _ => ⟨_, rfl, T0, _, rfl, .inl (.of eT), _, _, rfl, rfl, _, rfl, ite2 (fun c => ?_) (fun _ => ⟨T0, _, _, _, _, fT, TR, ⟨ts, as, ls, s, eT, eR, rl, okt, tl, al⟩, rfl⟩)⟩) (fun _ => ⟨T0, _, _, _, _, fT, TR, ⟨ts, as, ls, s, eT, eR, rl, okt, tl, al⟩, rfl⟩)⟩, ?_⟩
    · have c2 : ((ts.map V.str).length : Int) < 12 := of_decide_eq_true c
      rw [List.length_map] at c2
      refine ⟨_, rfl, ltr, rfl, fun D hDn => ?_⟩
      refine lc_str (fun i H' => H' D = some (.lst ((((ltr.cps.toList.take i).filter (fun c => decide (one c ∉ ts))).map one).map V.str)) ∧ Same H4 H') ⟨upd_same, same_upd hDn⟩ ?_ ?_
      · rintro i2 c2 H10 hc2 ⟨eD, sm⟩
        have hc3 : ltr.cps.toList[i2]? = some c2 := by simpa using hc2
        have i26 : i2 < 26 := by
          have := (List.getElem?_eq_some_iff.mp hc3).1
          rw [ltr_l] at this
          exact this
        have et : ltr.cps.toList.take (i2 + 1) = ltr.cps.toList.take i2 ++ [c2] := by rw [List.take_add_one, hc3]; rfl
        refine ⟨rfl, _, rfl, _, rfl, T0, _, rfl, .inl (.of (sm _ _ eT)), rfl, flat_strs _, _, rfl, ?_⟩
        have ei : inV (V.str ⟨#[c2]⟩) (ts.map V.str) = decide (one c2 ∈ ts) := inV_str (one c2) ts
        refine ite2 (fun c => ?_) (fun c => ?_)
        · have h1 : (!inV (V.str ⟨#[c2]⟩) (ts.map V.str)) = true := c
          rw [ei] at h1
          have h2 : one c2 ∉ ts := by simpa using h1
          refine ⟨_, rfl, _, eD, ?_, ?_, fun b o e => ?_⟩
          · rw [List.length_map, List.length_map]
            refine small1000 (Nat.le_trans (List.length_filter_le _ _) ?_)
            rw [List.length_take]
            omega
          · rw [upd_same, et, List.filter_append, List.map_append, List.map_append]
            have : List.filter (fun c => decide (one c ∉ ts)) [c2] = [c2] := by rw [List.filter_cons_of_pos (by simpa using h2)]; rfl
            rw [this]
            rfl
          · rw [upd_ne (ne_of_none e hDn)]
            exact sm b o e
        · have h1 : ¬ (!inV (V.str ⟨#[c2]⟩) (ts.map V.str)) = true := c
          rw [ei] at h1
          have h2 : one c2 ∈ ts := by simpa using h1
          refine ⟨?_, sm⟩
          rw [eD, et, List.filter_append]
          have : List.filter (fun c => decide (one c ∉ ts)) [c2] = [] := by rw [List.filter_cons_of_neg (by simpa using h2)]; rfl
          rw [this, List.append_nil]
      · rintro H10 ⟨eD, sm⟩
        obtain ⟨c0, r0, e0⟩ := ltr_free (ts := ts) (by omega)
        have e26 : ltr.cps.size = ltr.cps.toList.length := by simp
        rw [e26, List.take_length, e0] at eD
        have hm : c0 ∈ ltr.cps.toList.filter (fun c => decide (one c ∉ ts)) := by rw [e0]; exact List.mem_cons_self
        obtain ⟨hm1, hm2⟩ := List.mem_filter.mp hm
        have hb : 97 ≤ c0 ∧ c0 ≤ 122 := by
          rw [ltr_l] at hm1
          simp only [List.mem_cons, List.not_mem_nil, or_false] at hm1
          omega
        have s10 := s.same sm
        have dD := s.dk.new hDn
        have eT10 := sm _ _ eT
        refine ⟨_, rfl, .inl ⟨rfl, _, .of eT10⟩, _, rfl, _, rfl, T0, _, rfl, .inl (.of eT10), _, _, rfl, rfl, d, g, _, rfl, s10.dk, ?_, ?_, fun wp H11 w0 w1 hD11 k11 => ?_⟩
        · show (0 : Int) < ((ts.map V.str).length : Int) + 1
          omega
        · exact small_log (by show (((ts.map V.str).length : Int) + 1).natAbs < 1024; rw [List.length_map]; omega)
        have w2 : wp < ((ts.map V.str).length : Int) + 1 := w1
        rw [List.length_map] at w2
        obtain ⟨wp, rfl⟩ := Int.eq_ofNat_of_zero_le w0
        have eT11 := k11 _ _ eT10 dT.1 dT.2
        have nin : one c0 ∉ ts := by simpa using hm2
        refine ⟨_, rfl, D, _, _, V.str (one c0), rfl, rfl, .of (k11 _ _ eD dD.1 dD.2), atI_nat (j := 0) rfl, T0, _, (wp : Int), V.str (one c0), rfl, rfl, eT11, ?_, by omega, by omega, ?_⟩
        · rw [List.length_map]; exact small1000 (by omega)
        have s11 := s10.draw hD11 k11
        exact ⟨T0, _, _, _, _, fT, TR, ⟨ts.take wp ++ [one c0] ++ ts.drop wp, as, ls, s11.mut fT dT.1 dT.2, by rw [upd_same, List.map_append, List.map_append, Int.toNat_natCast, List.map_take, List.map_drop]; rfl, by rw [upd_ne TR.symm]; exact k11 _ _ (sm _ _ eR) dR.1 dR.2,
          (((rl.keep (Same.tk sm)).keep (Kd.tk k11 s10.dk)).keep (tk_mut eT11)).more (mem_ins wp), ins_ok okt (nm_one hb.1 hb.2) nin tl wp, by
            rw [List.length_append, List.length_append, List.length_take, List.length_drop]
            show min wp ts.length + 1 + (ts.length - wp) ≤ 12
            omega, al⟩, rfl⟩
    clear s eT eR rl okt tl al TR dT fT
    clear ts as ls x5 x6 x7 x8
    clear T0
    rintro σ H5 ⟨T0, x5, x6, x7, x8, fT, TR, i0, rfl⟩
    -- one rule more
    obtain ⟨ts, as, ls, s, eT, eR, rl, okt, tl, al⟩ := i0
    have dT := hD.new fT
    refine ⟨fun σ H' => ∃ (Tx : Addr) (x5 x6 x7 x8 : Option V), H Tx = none ∧ Tx ≠ R0 ∧ ChI H H' d g Tx R0 40 ∧ σ = [some (.ref d), some (.ref Tx), some (.ref R0), some (.int way), some (.int (at_ : Int)), x5, x6, x7, x8], ⟨_, rfl, rfl, _, rfl, ite2 (fun _ => ?_) (fun _ => ⟨_, rfl, Nat.zero_le _, fun Z hZ => ⟨rsdata ls, .list [], .lst (.of (same_upd hZ _ _ eR)) (rl.keep (Same.tk (same_upd hZ))).dp, .lst (.of upd_same) .nil, rsdata_ok okt rl.all, by decide, _, rfl, ite2 (fun _ => ?_) (fun _ => ⟨T0, _, _, _, _, fT, TR, ⟨ts, as, ls, s.new hZ, same_upd hZ _ _ eT, same_upd hZ _ _ eR, rl.keep (Same.tk (same_upd hZ)), okt, tl, Nat.le_succ_of_le al⟩, rfl⟩)⟩⟩)⟩, ?_⟩
    · refine ⟨_, rfl, .inl ⟨rfl, _, .of eR⟩, _, rfl, _, rfl, _, rfl, d, g, T0, ts, rfl, s.dk, ⟨eT, dT.1, dT.2⟩, okt, fun a l H6 s6 fa ea rok => ⟨R0, _, (at_ : Int), .ref a, rfl, rfl, s6.kd _ _ eR dR.1 dR.2, ?_, by omega, by omega, ?_⟩⟩
      · rw [List.length_map]; exact small1000 (by omega)
      · exact ⟨T0, _, _, _, _, fT, TR, ⟨ts, as.take at_ ++ [a] ++ as.drop at_, ls.take at_ ++ [l] ++ ls.drop at_, (s.trans s6).mut fR dR.1 dR.2, by rw [upd_ne TR]; exact s6.kd _ _ eT dT.1 dT.2, by rw [upd_same, List.map_append, List.map_append, Int.toNat_natCast, List.map_take, List.map_drop]; rfl,
          ((((rl.keep (Kd.tk s6.kd s.dk)).take at_).app' (.cons ea rok .nil)).app' ((rl.keep (Kd.tk s6.kd s.dk)).drop at_)).keep (tk_mut (s6.kd _ _ eR dR.1 dR.2)), okt, tl, by
            rw [List.length_append, List.length_append, List.length_take, List.length_drop]
            show min at_ as.length + 1 + (as.length - at_) ≤ 40
            omega⟩, rfl⟩
    · have sZ := s.new (o := .lst []) hZ
      have mZ := same_upd (o := .lst []) hZ
      have eTZ := mZ _ _ eT
      have eRZ := mZ _ _ eR
      have rlZ := rl.keep (Same.tk mZ)
      refine ⟨_, rfl, .inl ⟨rfl, _, .of eRZ⟩, _, rfl, _, rfl, _, rfl, d, g, T0, ts, rfl, sZ.dk, ⟨eTZ, dT.1, dT.2⟩, okt, fun a l H6 s6 fa ea rok => ⟨R0, _, (at_ : Int), .ref a, rfl, rfl, s6.kd _ _ eRZ dR.1 dR.2, ?_, by omega, by omega, ?_⟩⟩
      · rw [List.length_map]; exact small1000 (by omega)
      · exact ⟨T0, _, _, _, _, fT, TR, ⟨ts, as.take at_ ++ [a] ++ as.drop at_, ls.take at_ ++ [l] ++ ls.drop at_, (sZ.trans s6).mut fR dR.1 dR.2, by rw [upd_ne TR]; exact s6.kd _ _ eTZ dT.1 dT.2, by rw [upd_same, List.map_append, List.map_append, Int.toNat_natCast, List.map_take, List.map_drop]; rfl,
          ((((rlZ.keep (Kd.tk s6.kd sZ.dk)).take at_).app' (.cons ea rok .nil)).app' ((rlZ.keep (Kd.tk s6.kd sZ.dk)).drop at_)).keep (tk_mut (s6.kd _ _ eRZ dR.1 dR.2)), okt, tl, by
            rw [List.length_append, List.length_append, List.length_take, List.length_drop]
            show min at_ as.length + 1 + (as.length - at_) ≤ 40
            omega⟩, rfl⟩
    clear s eT eR rl okt tl al TR dT fT
    clear ts as ls x5 x6 x7 x8
    clear T0
    rintro σ H6 ⟨T0, x5, x6, x7, x8, fT, TR, i0, rfl⟩
    -- a rule less
    obtain ⟨ts, as, ls, s, eT, eR, rl, okt, tl, al⟩ := i0
    have dT := hD.new fT
    refine ⟨fun σ H' => ∃ (Tx : Addr) (x5 x6 x7 x8 : Option V), H Tx = none ∧ Tx ≠ R0 ∧ ChI H H' d g Tx R0 40 ∧ σ = [some (.ref d), some (.ref Tx), some (.ref R0), some (.int way), some (.int (at_ : Int)), x5, x6, x7, x8], ⟨_, rfl, rfl, _, rfl, ite2 (fun _ => ⟨_, rfl, _, rfl, R0, _, rfl, .inl (.of eR), _, _, rfl, rfl, _, rfl, ite2 (fun c => ?_) (fun _ => ⟨T0, _, _, _, _, fT, TR, ⟨ts, as, ls, s, eT, eR, rl, okt, tl, al⟩, rfl⟩)⟩) (fun _ => ⟨T0, _, _, _, _, fT, TR, ⟨ts, as, ls, s, eT, eR, rl, okt, tl, al⟩, rfl⟩)⟩, ?_⟩
    · skip
      have c2 : (at_ : Int) < ((as.map V.ref).length : Int) := of_decide_eq_true c
      rw [List.length_map] at c2
      have hj : at_ < as.length := by omega
      have ga : (as.map V.ref)[at_]? = some (V.ref as[at_]) := by rw [List.getElem?_map, List.getElem?_eq_getElem hj]; rfl
      have ixA := ixN_nat (n := (as.map V.ref).length) (j := at_) (by rw [List.length_map]; exact hj)
      obtain ⟨l, _, ea, rok⟩ := rl.at (List.getElem?_eq_getElem hj)
      exact ⟨_, rfl, .inl ⟨rfl, _, .of eR⟩, _, rfl, R0, _, (at_ : Int), at_, V.ref as[at_], rfl, rfl, eR, by omega, by omega, (ixN_seq ixA).1, ga, T0, _, _, _, _, fT, TR, ⟨ts, as.eraseIdx at_, ls.eraseIdx at_, s.mut fR dR.1 dR.2, by rw [upd_ne TR]; exact eT, by rw [upd_same, erase_ref], (rl.eraseIdx at_).keep (tk_mut eR), okt, tl, by rw [List.length_eraseIdx_of_lt hj]; omega⟩, rfl⟩
    clear s eT eR rl okt tl al TR dT fT
    clear ts as ls x5 x6 x7 x8
    clear T0
    rintro σ H7 ⟨T0, x5, x6, x7, x8, fT, TR, i0, rfl⟩
    -- a rule in another place
    obtain ⟨ts, as, ls, s, eT, eR, rl, okt, tl, al⟩ := i0
    have dT := hD.new fT
    refine ⟨fun σ H' => ∃ (Tx : Addr) (x5 x6 x7 x8 : Option V), H Tx = none ∧ Tx ≠ R0 ∧ ChI H H' d g Tx R0 40 ∧ σ = [some (.ref d), some (.ref Tx), some (.ref R0), some (.int way), some (.int (at_ : Int)), x5, x6, x7, x8], ⟨_, rfl, rfl, _, rfl, ite2 (fun _ => ⟨_, rfl, _, rfl, R0, _, rfl, .inl (.of eR), _, _, rfl, rfl, _, rfl, ite2 (fun c => ?_) (fun _ => ⟨T0, _, _, _, _, fT, TR, ⟨ts, as, ls, s, eT, eR, rl, okt, tl, al⟩, rfl⟩)⟩) (fun _ => ⟨T0, _, _, _, _, fT, TR, ⟨ts, as, ls, s, eT, eR, rl, okt, tl, al⟩, rfl⟩)⟩, ?_⟩
    · skip
      have c2 : (at_ : Int) < ((as.map V.ref).length : Int) := of_decide_eq_true c
      rw [List.length_map] at c2
      have hj : at_ < as.length := by omega
      have ga : (as.map V.ref)[at_]? = some (V.ref as[at_]) := by rw [List.getElem?_map, List.getElem?_eq_getElem hj]; rfl
      have ixA := ixN_nat (n := (as.map V.ref).length) (j := at_) (by rw [List.length_map]; exact hj)
      obtain ⟨l, _, ea, rok⟩ := rl.at (List.getElem?_eq_getElem hj)
      refine ⟨_, rfl, .inl ⟨rfl, _, .of eR⟩, _, rfl, _, rfl, R0, _, rfl, .inl (.of eR), d, g, _, rfl, s.dk, ?_, ?_, fun wp HA w0 w1 hDA kA => ?_⟩
      · rw [List.length_map]; omega
      · exact small_log (by rw [List.length_map]; omega)
      rw [List.length_map] at w1
      obtain ⟨wp, rfl⟩ := Int.eq_ofNat_of_zero_le w0
      have eRA := kA _ _ eR dR.1 dR.2
      have sA := s.draw hDA kA
      have lenE : (as.eraseIdx at_).length = as.length - 1 := List.length_eraseIdx_of_lt hj
      have rlE := ((rl.keep (Kd.tk kA s.dk)).eraseIdx at_)
      refine ⟨_, rfl, .inl ⟨rfl, _, .of eRA⟩, _, rfl, R0, _, (at_ : Int), at_, V.ref as[at_], rfl, rfl, eRA, by omega, by omega, (ixN_seq ixA).1, ga, R0, (as.eraseIdx at_).map V.ref, (wp : Int), V.ref as[at_], rfl, rfl, by rw [upd_same, erase_ref], ?_, by omega, by omega, ?_⟩
      · rw [List.length_map]; exact small1000 (by omega)
      have eRB := upd_same (H := HA) (a := R0) (o := .lst ((as.map V.ref).eraseIdx at_))
      exact ⟨T0, _, _, _, _, fT, TR, ⟨ts, (as.eraseIdx at_).take wp ++ [as[at_]] ++ (as.eraseIdx at_).drop wp, (ls.eraseIdx at_).take wp ++ [l] ++ (ls.eraseIdx at_).drop wp, (sA.mut fR dR.1 dR.2).mut fR dR.1 dR.2, by rw [upd_ne TR, upd_ne TR]; exact kA _ _ eT dT.1 dT.2, by rw [upd_same, List.map_append, List.map_append, Int.toNat_natCast, List.map_take, List.map_drop]; rfl,
        ((((rlE.take wp).app' (.cons (Kd.tk kA s.dk _ _ ea) rok .nil)).app' (rlE.drop wp)).keep (tk_mut eRA)).keep (tk_mut eRB), okt, tl, by
          rw [List.length_append, List.length_append, List.length_take, List.length_drop]
          show min wp (as.eraseIdx at_).length + 1 + ((as.eraseIdx at_).length - wp) ≤ 40
          omega⟩, rfl⟩
    clear s eT eR rl okt tl al TR dT fT
    clear ts as ls x5 x6 x7 x8
    clear T0
    rintro σ H8 ⟨T0, x5, x6, x7, x8, fT, TR, i0, rfl⟩
    -- exchanged tasks
    obtain ⟨ts, as, ls, s, eT, eR, rl, okt, tl, al⟩ := i0
    have dT := hD.new fT
    refine ⟨fun σ H' => ∃ (Tx : Addr) (x5 x6 x7 x8 : Option V), H Tx = none ∧ Tx ≠ R0 ∧ ChI H H' d g Tx R0 40 ∧ σ = [some (.ref d), some (.ref Tx), some (.ref R0), some (.int way), some (.int (at_ : Int)), x5, x6, x7, x8], ⟨_, rfl, rfl, _, rfl, ite2 (fun _ => ⟨_, rfl, _, rfl, R0, _, rfl, .inl (.of eR), _, _, rfl, rfl, _, rfl, ite2 (fun c => ?_) (fun _ => ⟨T0, _, _, _, _, fT, TR, ⟨ts, as, ls, s, eT, eR, rl, okt, tl, al⟩, rfl⟩)⟩) (fun _ => ⟨T0, _, _, _, _, fT, TR, ⟨ts, as, ls, s, eT, eR, rl, okt, tl, al⟩, rfl⟩)⟩, ?_⟩
    · skip
      have c2 : (at_ : Int) < ((as.map V.ref).length : Int) := of_decide_eq_true c
      rw [List.length_map] at c2
      have hj : at_ < as.length := by omega
      have ga : (as.map V.ref)[at_]? = some (V.ref as[at_]) := by rw [List.getElem?_map, List.getElem?_eq_getElem hj]; rfl
      have ixA := ixN_nat (n := (as.map V.ref).length) (j := at_) (by rw [List.length_map]; exact hj)
      obtain ⟨l, _, ea, rok⟩ := rl.at (List.getElem?_eq_getElem hj)
      refine ⟨_, rfl, _, rfl, R0, _, _, V.ref as[at_], rfl, rfl, .of eR, at_of (j := at_) (by omega) ga, as[at_], _, rfl, .inr (.of ea), rfl, _, rfl, ite2 (fun c3 => ?_) (fun _ => ⟨T0, _, _, _, _, fT, TR, ⟨ts, as, ls, s, eT, eR, rl, okt, tl, al⟩, rfl⟩)⟩
      have c4 : ((l.map V.str).length : Int) = 3 := V.int.inj (of_decide_eq_true c3)
      obtain ⟨kk, x, y, k6, hx, hy, xy, rfl⟩ : ∃ kk x y, kk ∈ six ∧ x ∈ ts ∧ y ∈ ts ∧ x ≠ y ∧ l = [kk, x, y] := by
        rcases rok with ⟨k', x, _, _, rfl⟩ | h
        · exact absurd c4 (by show ¬ ((2 : Nat) : Int) = 3; omega)
        · exact h
      refine ⟨_, rfl, _, rfl, R0, _, _, V.ref as[at_], rfl, rfl, .of eR, at_of (j := at_) (by omega) ga, as[at_], _, _, V.str kk, rfl, rfl, .of ea, atI_nat (j := 0) rfl, _, rfl, _, rfl, R0, _, _, V.ref as[at_], rfl, rfl, .of eR, at_of (j := at_) (by omega) ga, as[at_], _, _, V.str y, rfl, rfl, .of ea, atI_nat (j := 2) rfl, _, rfl, _, rfl, R0, _, _, V.ref as[at_], rfl, rfl, .of eR, at_of (j := at_) (by omega) ga, as[at_], _, _, V.str x, rfl, rfl, .of ea, atI_nat (j := 1) rfl, (by show 3 ≤ sizeLine; decide), fun U hU => ?_⟩
      have sU := same_upd (o := .tup [.str kk, .str y, .str x]) hU
      have okU : RuleOk ts [kk, y, x] := .inr ⟨kk, y, x, k6, hy, hx, fun z => xy z.symm, rfl⟩
      have eU2 := upd_same (H := H8) (a := U) (o := .tup [.str kk, .str y, .str x])
      exact ⟨_, rfl, _, rfl, R0, _, _, at_, rfl, rfl, sU _ _ eR, ixA, T0, _, _, _, _, fT, TR, ⟨ts, as.set at_ U, ls.set at_ [kk, y, x], (s.new hU).mut fR dR.1 dR.2, by rw [upd_ne TR]; exact sU _ _ eT, by rw [upd_same, List.map_set], (Rls.set eU2 okU at_ (rl.keep (Same.tk sU))).keep (tk_mut (sU _ _ eR)), okt, tl, by rw [List.length_set]; exact al⟩, rfl⟩
    clear s eT eR rl okt tl al TR dT fT
    clear ts as ls x5 x6 x7 x8
    clear T0
    rintro σ H9 ⟨T0, x5, x6, x7, x8, fT, TR, i0, rfl⟩
    -- another kind
    obtain ⟨ts, as, ls, s, eT, eR, rl, okt, tl, al⟩ := i0
    have dT := hD.new fT
    refine ⟨fun σ H' => ∃ (Tx : Addr) (x5 x6 x7 x8 : Option V), H Tx = none ∧ Tx ≠ R0 ∧ ChI H H' d g Tx R0 40 ∧ σ = [some (.ref d), some (.ref Tx), some (.ref R0), some (.int way), some (.int (at_ : Int)), x5, x6, x7, x8], ⟨_, rfl, rfl, _, rfl, ite2 (fun _ => ⟨_, rfl, _, rfl, R0, _, rfl, .inl (.of eR), _, _, rfl, rfl, _, rfl, ite2 (fun c => ?_) (fun _ => ⟨T0, _, _, _, _, fT, TR, ⟨ts, as, ls, s, eT, eR, rl, okt, tl, al⟩, rfl⟩)⟩) (fun _ => ⟨T0, _, _, _, _, fT, TR, ⟨ts, as, ls, s, eT, eR, rl, okt, tl, al⟩, rfl⟩)⟩, ?_⟩
    · skip
      have c2 : (at_ : Int) < ((as.map V.ref).length : Int) := of_decide_eq_true c
      rw [List.length_map] at c2
      have hj : at_ < as.length := by omega
      have ga : (as.map V.ref)[at_]? = some (V.ref as[at_]) := by rw [List.getElem?_map, List.getElem?_eq_getElem hj]; rfl
      have ixA := ixN_nat (n := (as.map V.ref).length) (j := at_) (by rw [List.length_map]; exact hj)
      obtain ⟨l, _, ea, rok⟩ := rl.at (List.getElem?_eq_getElem hj)
      refine ⟨_, rfl, _, rfl, R0, _, _, V.ref as[at_], rfl, rfl, .of eR, at_of (j := at_) (by omega) ga, as[at_], _, rfl, .inr (.of ea), rfl, _, rfl, ite2 (fun c3 => ?_) (fun _ => ⟨T0, _, _, _, _, fT, TR, ⟨ts, as, ls, s, eT, eR, rl, okt, tl, al⟩, rfl⟩)⟩
      have c4 : ((l.map V.str).length : Int) = 3 := V.int.inj (of_decide_eq_true c3)
      obtain ⟨kk, x, y, k6, hx, hy, xy, rfl⟩ : ∃ kk x y, kk ∈ six ∧ x ∈ ts ∧ y ∈ ts ∧ x ≠ y ∧ l = [kk, x, y] := by
        rcases rok with ⟨k', x, _, _, rfl⟩ | h
        · exact absurd c4 (by show ¬ ((2 : Nat) : Int) = 3; omega)
        · exact h
      refine ⟨(by show 6 ≤ sizeLine; decide), fun L hL => ?_⟩
      have sL := same_upd (o := .lst (six.map V.str)) hL
      have dL := s.dk.new hL
      refine ⟨_, rfl, d, g, 6, rfl, s.dk.same sL, by decide, by decide +kernel, fun wq HA w0 w1 hDA kA => ?_⟩
      obtain ⟨kn, hk, gk⟩ := pickS w0 w1
      have sA := (s.new (o := .lst (six.map V.str)) hL).draw hDA kA
      have eRA := kA _ _ (sL _ _ eR) dR.1 dR.2
      have eTA := kA _ _ (sL _ _ eT) dT.1 dT.2
      have tkA := (Same.tk sL).trans (Kd.tk kA (s.dk.same sL))
      have eaA := tkA _ _ ea
      refine ⟨L, _, _, V.str kn, rfl, rfl, .of (kA _ _ upd_same dL.1 dL.2), at_of (j := wq.toNat) (by omega) gk, (by show 1 ≤ sizeLine; decide), fun U1 hU1 => ?_⟩
      have sU1 := same_upd (o := .tup [.str kn]) hU1
      refine ⟨_, rfl, _, rfl, R0, _, _, V.ref as[at_], rfl, rfl, .of (sU1 _ _ eRA), at_of (j := at_) (by omega) ga, _, rfl, as[at_], _, rfl, .of (sU1 _ _ eaA), (fun h => absurd (show HT.sIx 3 0 (some 1) = 0 from h.1) (by decide)), fun U2 hU2 => ?_⟩
      have sU2 := same_upd (o := .tup [.str x, .str y]) hU2
      refine ⟨U1, U2, _, _, rfl, rfl, .of (sU2 _ _ upd_same), .of upd_same, by simp, by show 3 ≤ sizeLine; decide, (fun z => nomatch (show [V.str x, V.str y] = [] from z)), fun _ U3 hU3 => ?_⟩
      have sU3 := same_upd (o := .tup [.str kn, .str x, .str y]) hU3
      have sU := (sU1.trans sU2).trans sU3
      have okU : RuleOk ts [kn, x, y] := .inr ⟨kn, x, y, hk, hx, hy, xy, rfl⟩
      have eU2 := upd_same (H := upd (upd HA U1 (.tup [.str kn])) U2 (.tup [.str x, .str y])) (a := U3) (o := .tup [.str kn, .str x, .str y])
      exact ⟨_, rfl, _, rfl, R0, _, _, at_, rfl, rfl, sU _ _ eRA, ixA, T0, _, _, _, _, fT, TR, ⟨ts, as.set at_ U3, ls.set at_ [kn, x, y], (((sA.new hU1).new hU2).new hU3).mut fR dR.1 dR.2, by rw [upd_ne TR]; exact sU _ _ eTA, by rw [upd_same, List.map_set], (Rls.set eU2 okU at_ ((rl.keep tkA).keep (Same.tk sU))).keep (tk_mut (sU _ _ eRA)), okt, tl, by rw [List.length_set]; exact al⟩, rfl⟩
    clear s eT eR rl okt tl al TR dT fT
    clear ts as ls x5 x6 x7 x8
    clear T0
    rintro σ H10 ⟨T0, x5, x6, x7, x8, fT, TR, i0, rfl⟩
    -- another rule
    obtain ⟨ts, as, ls, s, eT, eR, rl, okt, tl, al⟩ := i0
    have dT := hD.new fT
    refine ⟨fun σ H' => ∃ (Tx : Addr) (x5 x6 x7 x8 : Option V), H Tx = none ∧ Tx ≠ R0 ∧ ChI H H' d g Tx R0 40 ∧ σ = [some (.ref d), some (.ref Tx), some (.ref R0), some (.int way), some (.int (at_ : Int)), x5, x6, x7, x8], ⟨_, rfl, rfl, _, rfl, ite2 (fun _ => ⟨_, rfl, _, rfl, R0, _, rfl, .inl (.of eR), _, _, rfl, rfl, _, rfl, ite2 (fun c => ?_) (fun _ => ⟨T0, _, _, _, _, fT, TR, ⟨ts, as, ls, s, eT, eR, rl, okt, tl, al⟩, rfl⟩)⟩) (fun _ => ⟨T0, _, _, _, _, fT, TR, ⟨ts, as, ls, s, eT, eR, rl, okt, tl, al⟩, rfl⟩)⟩, ?_⟩
    · skip
      have c2 : (at_ : Int) < ((as.map V.ref).length : Int) := of_decide_eq_true c
      rw [List.length_map] at c2
      have hj : at_ < as.length := by omega
      have ga : (as.map V.ref)[at_]? = some (V.ref as[at_]) := by rw [List.getElem?_map, List.getElem?_eq_getElem hj]; rfl
      have ixA := ixN_nat (n := (as.map V.ref).length) (j := at_) (by rw [List.length_map]; exact hj)
      obtain ⟨l, _, ea, rok⟩ := rl.at (List.getElem?_eq_getElem hj)
      refine ⟨_, rfl, _, rfl, d, g, T0, ts, rfl, s.dk, ⟨eT, dT.1, dT.2⟩, okt, fun a l' H6 s6 fa ea' rok' => ?_⟩
      skip
      have eU2 := ea'
      exact ⟨_, rfl, _, rfl, R0, _, _, at_, rfl, rfl, s6.kd _ _ eR dR.1 dR.2, ixA, T0, _, _, _, _, fT, TR, ⟨ts, as.set at_ a, ls.set at_ l', (s.trans s6).mut fR dR.1 dR.2, by rw [upd_ne TR]; exact s6.kd _ _ eT dT.1 dT.2, by rw [upd_same, List.map_set], (Rls.set eU2 rok' at_ (rl.keep (Kd.tk s6.kd s.dk))).keep (tk_mut (s6.kd _ _ eR dR.1 dR.2)), okt, tl, by rw [List.length_set]; exact al⟩, rfl⟩
    clear s eT eR rl okt tl al TR dT fT
    clear ts as ls x5 x6 x7 x8
    clear T0
    rintro σ H11 ⟨T0, x5, x6, x7, x8, fT, TR, i0, rfl⟩
    refine ⟨_, rfl, _, rfl, (by show 2 ≤ sizeLine; decide), fun u hu => ?_⟩
    obtain ⟨ts, as, ls, s, eT, eR, rl, okt, tl, al⟩ := i0
    have su := same_upd (o := .tup [.ref T0, .ref R0]) hu
    exact k u T0 R0 _ ⟨ts, as, ls, s.new hu, su _ _ eT, su _ _ eR, rl.keep (Same.tk su), okt, tl, al⟩ fT fR upd_same
theorem cut_d (xs : List Addr) (c : Nat) : cutV (xs.map V.ref) (some (c : Int)) none = (xs.drop c).map V.ref := by rw [cut_drop, List.map_drop]
theorem cut_t (xs : List Addr) (c : Nat) : cutV (xs.map V.ref) none (some (c : Int)) = (xs.take c).map V.ref := by rw [cut_take, List.map_take]
theorem map_snoc_ref (us : List Addr) (U : Addr) : (us ++ [U]).map V.ref = us.map V.ref ++ [V.ref U] := by rw [List.map_append]; rfl
abbrev TL := List Str × List (List Str)
/-- the tuple at u: tasks and rules, apart from the deck and R -/
def RowB (H : Hp) (d g R u : Addr) (x : TL) : Prop := ∃ t r as, H u = some (.tup [.ref t, .ref r]) ∧ Lat H d g t (x.1.map V.str) ∧ t ≠ R ∧ Lat H d g r (as.map V.ref) ∧ r ≠ R ∧ Rls x.1 H as x.2 ∧ TasksOk x.1 ∧ x.1.length ≤ 12 ∧ as.length ≤ 40
theorem kr_tk {H H' : Hp} {d g R : Addr} {xs : List V} (hD : Deck H d g) (hR : H R = some (.lst xs)) (k : ∀ b o, H b = some o → b ≠ d → b ≠ g → b ≠ R → H' b = some o) : Tk H H' := fun b ys e => by
  obtain ⟨gs, a, m, h1, h2, _⟩ := hD
  exact k b _ e (ne_of e h1 (by intro z; cases z)) (ne_of e h2 (by intro z; cases z)) (ne_of e hR (by intro z; cases z))
theorem RowB.kr {H H' : Hp} {d g R u : Addr} {x : TL} {xs : List V} (h : RowB H d g R u x) (hD : Deck H d g) (hR : H R = some (.lst xs)) (k : ∀ b o, H b = some o → b ≠ d → b ≠ g → b ≠ R → H' b = some o) : RowB H' d g R u x := by
  have tk := kr_tk hD hR k
  obtain ⟨t, r, as, h1, h2, n2, h3, n3, h4, h5⟩ := h
  exact ⟨t, r, as, tk _ _ h1, ⟨k _ _ h2.at_ h2.nd h2.ng n2, h2.nd, h2.ng⟩, n2, ⟨k _ _ h3.at_ h3.nd h3.ng n3, h3.nd, h3.ng⟩, n3, h4.keep tk, h5⟩
/-- a book, its lists apart from the deck, from D and from R -/
def BkX (C : Addr) (H : Hp) (d g D R c : Addr) (x : TL) : Prop := ∃ dx p q as, H c = some (.ins C dx (fl p q)) ∧ Lat H d g p (x.1.map V.str) ∧ (p ≠ D ∧ p ≠ R) ∧ Lat H d g q (as.map V.ref) ∧ (q ≠ D ∧ q ≠ R) ∧ Rls x.1 H as x.2
theorem BkX.up {C : Addr} {H H' : Hp} {d g D R c z : Addr} {x : TL} {xs ys : List V} (h : BkX C H d g D R c x) (hz : z = D ∨ z = R) (s : Same H H') (hd : H' z = some (.lst xs)) : BkX C (upd H' z (.lst ys)) d g D R c x := by
  obtain ⟨dx, p, q, as, h1, h2, n2, h3, n3, h4⟩ := h
  have cD : c ≠ z := ne_of (s _ _ h1) hd (by intro z; cases z)
  have pz : p ≠ z := by rcases hz with rfl | rfl; exact n2.1; exact n2.2
  have qz : q ≠ z := by rcases hz with rfl | rfl; exact n3.1; exact n3.2
  exact ⟨dx, p, q, as, by rw [upd_ne cD]; exact s _ _ h1, ⟨by rw [upd_ne pz]; exact s _ _ h2.at_, h2.nd, h2.ng⟩, n2, ⟨by rw [upd_ne qz]; exact s _ _ h3.at_, h3.nd, h3.ng⟩, n3, (h4.keep (Same.tk s)).keep (tk_mut hd)⟩
theorem BkX.kd {C : Addr} {H H' : Hp} {d g D R c : Addr} {x : TL} (h : BkX C H d g D R c x) (hD : Deck H d g) (k : Kd d g H H') : BkX C H' d g D R c x := by
  obtain ⟨dx, p, q, as, h1, h2, n2, h3, n3, h4⟩ := h
  have tk := Kd.tk k hD
  obtain ⟨gs, a, m, g1, g2, _⟩ := hD
  refine ⟨dx, p, q, as, k _ _ h1 ?_ ?_, h2.keep k, n2, h3.keep k, n3, h4.keep tk⟩
  · intro z; rw [z, g1] at h1; cases h1
  · intro z; rw [z, g2] at h1; cases h1
theorem BkX.r {K : PySem.W.Frag} {C : Addr} {H : Hp} {d g D R c : Addr} {x : TL} (h : BkX C H d g D R c x) : BkR K C H c x.1 x.2 := by
  obtain ⟨dx, p, q, as, h1, h2, _, h3, _, h4⟩ := h
  exact ⟨dx, p, q, as, h1, h2.at_, h3.at_, h4⟩
theorem deck_mv {H : Hp} {d g R : Addr} {o : HO} (h : Deck H d g) (n : R ≠ d ∧ R ≠ g) : Deck (upd H R o) d g := by
  obtain ⟨gs, a0, m0, g1, g2, g3⟩ := h
  exact ⟨gs, a0, m0, by rw [upd_ne n.1.symm]; exact g1, by rw [upd_ne n.2.symm]; exact g2, g3⟩
theorem ne_fr {H : Hp} {a b : Addr} {o : HO} (f : H a = none) (e : H b = some o) : a ≠ b := fun z => by
  rw [z, e] at f
  cases f
theorem fl_with (t r : Addr) : (fl t r).lookup ("with_rules" : Str) = none := by
  unfold fl
  rw [lookup_putF, if_neg (by decide +kernel), lookup_putF, if_neg (by decide +kernel)]
  rfl
theorem pair_ok {ts : List Str} (ok : TasksOk ts) {ls : List (List Str)} (h : ∀ l ∈ ls, RuleOk ts l) : SeqAt.shaped (.tuple [tdata ts, rsdata ls]) = true := by
  unfold SeqAt.shaped
  rw [Bool.and_eq_true]
  have h1 := depth_strs ts
  have h2 := depth_rules ls
  refine ⟨?_, decide_eq_true (by simp only [tdata, rsdata, PyData.depth, PyData.depthAll]; omega)⟩
  show (PyData.canLayAll0 (ts.map PyData.str) && (PyData.canLayAll0 (ls.map rdata) && true)) = true
  rw [lay_strs fun z hz => nm_ok (ok.nm z hz), lay_rules ok h]
  rfl
theorem due_eq (ts us : List Str) (ls ms : List (List Str)) : PyData.eqv (.tuple [tdata ts, rsdata ls]) (.tuple [tdata us, rsdata ms]) = (decide (ts = us) && decide (ls = ms)) := by
  show (PyData.eqv (tdata ts) (tdata us) && (PyData.eqv (rsdata ls) (rsdata ms) && true)) = _
  rw [eqv_td, eqv_rs, Bool.and_true]
theorem sum_le : ∀ (ts : List Str), (∀ z ∈ ts, z.length ≤ 8) → (ts.map (·.length)).sum ≤ 8 * ts.length
  | [], _ => Nat.le_refl _
  | z :: r, h => by
    have h1 := sum_le r fun y hy => h y (List.mem_cons_of_mem _ hy)
    have h2 := h z List.mem_cons_self
    rw [List.map_cons, List.sum_cons, List.length_cons]
    omega
def sp_law (K : PySem.W.Frag) : Sp := fun vs H Q _ => ∃ (a : Addr) (ns : List Int), vs = [.ref a] ∧ SqL K H a (ns.map V.int) ∧ ns.length ≤ 63 ∧ ∀ H', Q (.bl true) H'
abbrev spLaw := sp_law
set_option maxHeartbeats 1600000 in
theorem ok_law (T : Tx K w mg) : FnOk P w K mg base CX0 6 T.f_law T.d_law ["script"] (sp_law K) := by
  refine T.F_law.ok sc_law (fun vs H Q E h => ?_) (fun cdv A outer s H vs Q E hr h => ?_)
  · obtain ⟨a, ns, rfl, _⟩ := h
    rfl
  · obtain ⟨a, ns, rfl, hS, hl, k⟩ := h
    refine ⟨_,
    (pss_cons
      (ps_set (i := 1) sc_law.nd rfl (.inl rfl) (pe_call (ok_law_deck T) (hr.mono (by decide)) (by rfl) T.g_law_deck T.F_law_deck.kp T.b_law_deck .nil pass0 (pa_cons (pv 0) pa_nil)))
    (pss_cons
      (ps_for PassesOwn.never rfl (pi_range1 (by rfl) T.m_range (pa_cons (pe_op op_add pe_int (pe_call (ok_law_draw T) (hr.mono (by decide)) (by rfl) T.g_law_draw T.F_law_draw.kp T.b_law_draw .nil pass0 (pa_cons (pv 1) (pa_cons pe_int pa_nil)))) pa_nil)) (pg_name (i := 2) sc_law.nd rfl (.inl rfl))
        (pss_cons
          (ps_set (i := 3) sc_law.nd rfl (.inl rfl) (pe_lst (pa_cons (pe_call (ok_law_data T) (hr.mono (by decide)) (by rfl) T.g_law_data T.F_law_data.kp T.b_law_data .nil pass0 (pa_cons (pv 1) (pa_cons pe_int (pa_cons pe_int pa_nil)))) pa_nil)))
        (pss_cons
          (ps_for PassesOwn.never rfl (pi_range1 (by rfl) T.m_range (pa_cons pe_int pa_nil)) (pg_name (i := 4) sc_law.nd rfl (.inl rfl))
            (pss_cons
              (ps_asg (pe_ix ix_list (pv 3) (pe_call (ok_law_draw T) (hr.mono (by decide)) (by rfl) T.g_law_draw T.F_law_draw.kp T.b_law_draw .nil pass0 (pa_cons (pv 1) (pa_cons (pe_callB call_len_seq (by rfl) T.m_len (by decide +kernel) (pa_cons (pv 3) pa_nil)) pa_nil))) (fun _ _ => rfl)) (pg_tup (by rfl) (pgs_cons (pg_name (i := 5) sc_law.nd rfl (.inl rfl)) (pgs_cons (pg_name (i := 6) sc_law.nd rfl (.inl rfl)) pgs_nil))))
            (pss_one
              (ps_expr (pe_bm PySem.F.plainAttrs_list PySem.F.slot_list_append PySem.F.type_list_append mt_append (pv 3) (pa_cons (pe_call (ok_law_changed T) (hr.mono (by decide)) (by rfl) T.g_law_changed T.F_law_changed.kp T.b_law_changed .nil pass0 (pa_cons (pv 1) (pa_cons (pv 5) (pa_cons (pe_slice sl_list (pv 6) po_none (po_some pe_int)) pa_nil)))) pa_nil))))))
        (pss_cons
          (ps_setLc (i := 7) (own := [("task_list", 5), ("rule_list", 6)]) (g := gTup K 2 (gCons (gName 5) (gCons (gName 6) gNil))) rfl sc_law.nd rfl rfl (sw_true rfl rfl rfl (by decide +kernel)) (pi_list (pv 3)) (blkOk_by (N := ["script", "deck", "k", "data", "m", "task_list", "rule_list", "books", "cut", "one", "two", "due", "pair", "thing"]) (sc := defScope s_law) (own := [("task_list", 5), ("rule_list", 6)]) (by decide +kernel)) (fun _ _ _ _ _ => (pg_tupK (K := K) rfl (by rfl) (pgs_cons (pg_name (i := 5) sc_law.nd rfl (.inl rfl)) (pgs_cons (pg_name (i := 6) sc_law.nd rfl (.inl rfl)) pgs_nil)))) (fun _ _ _ _ _ => pts_nil) (fun _ _ _ _ _ => (pe_make T.mk_Book (ok_Book_init T) (hr.mono (by decide)) (by rfl) T.mg_Book T.b_Book_init .nil pass0 (pa_cons (pe_callTy (T := "list") (r := rList K) call_list_of (by rfl) T.m_list (by decide +kernel) (pa_cons (pv 5) pa_nil)) (pa_cons (pe_callTy (T := "list") (r := rList K) call_list_of (by rfl) T.m_list (by decide +kernel) (pa_cons (pv 6) pa_nil)) pa_nil)))))
        (pss_cons
          (ps_asg (pe_ix ix_list (pv 3) pe_int (fun _ _ => rfl)) (pg_tup (by rfl) (pgs_cons (pg_name (i := 5) sc_law.nd rfl (.inl rfl)) (pgs_cons (pg_name (i := 6) sc_law.nd rfl (.inl rfl)) pgs_nil))))
        (pss_cons
          (ps_set (i := 8) sc_law.nd rfl (.inl rfl) (pe_call (ok_law_draw T) (hr.mono (by decide)) (by rfl) T.g_law_draw T.F_law_draw.kp T.b_law_draw .nil pass0 (pa_cons (pv 1) (pa_cons (pe_op op_add (pe_callB call_len_seq (by rfl) T.m_len (by decide +kernel) (pa_cons (pv 6) pa_nil)) pe_int) pa_nil))))
        (pss_cons
          (ps_expr (pe_bm PySem.F.plainAttrs_list PySem.F.slot_list_append PySem.F.type_list_append mt_append (pv 7) (pa_cons (pe_meth (pe_make T.mk_Book (ok_Book_init T) (hr.mono (by decide)) (by rfl) T.mg_Book T.b_Book_init .nil pass0 (pa_cons (pe_callTy call_list_of (by rfl) T.m_list (by decide +kernel) (pa_cons (pv 5) pa_nil)) (pa_cons (pe_slice sl_list (pv 6) po_none (po_some (pv 8))) pa_nil))) T.cl_Book T.me_Book_with_rules (ok_Book_with_rules T) hr T.b_Book_with_rules .nil pass0 (pa_cons (pe_slice sl_list (pv 6) (po_some (pv 8)) po_none) pa_nil)) pa_nil)))
        (pss_cons
          (ps_expr (pe_bm PySem.F.plainAttrs_list PySem.F.slot_list_append PySem.F.type_list_append mt_append (pv 3) (pa_cons (pe_tup (pa_cons (pv 5) (pa_cons (pv 6) pa_nil))) pa_nil)))
        (pss_one
          (ps_for PassesOwn.never rfl (pi_list (pe_call (ok_law_order T) (hr.mono (by decide)) (by rfl) T.g_law_order T.F_law_order.kp T.b_law_order .nil pass0 (pa_cons (pv 1) (pa_cons pe_int pa_nil)))) (pg_name (i := 9) sc_law.nd rfl (.inl rfl))
            (pss_cons
              (ps_for PassesOwn.never rfl (pi_list (pe_call (ok_law_order T) (hr.mono (by decide)) (by rfl) T.g_law_order T.F_law_order.kp T.b_law_order .nil pass0 (pa_cons (pv 1) (pa_cons pe_int pa_nil)))) (pg_name (i := 10) sc_law.nd rfl (.inl rfl))
                (pss_cons
                  (ps_set (i := 11) sc_law.nd rfl (.inl rfl) (pe_cmpR (op_eqD hr.units) (pe_ix ix_list (pv 3) (pv 9) (fun _ _ => rfl)) (pe_ix ix_list (pv 3) (pv 10) (fun _ _ => rfl)) (nomark _)))
                (pss_one
                  (ps_if (pt_not (pt_val (pe_call (ok_law_compared T) (hr.mono (by decide)) (by rfl) T.g_law_compared T.F_law_compared.kp T.b_law_compared .nil pass0 (pa_cons (pe_ix ix_list (pv 7) (pv 9) (fun _ _ => rfl)) (pa_cons (pe_ix ix_list (pv 7) (pv 10) (fun _ _ => rfl)) (pa_cons (pv 11) pa_nil))))))
                    (pss_one
                      (ps_ret pe_bl))
                    pss_nil))))
            (pss_cons
              (ps_set (i := 12) sc_law.nd rfl (.inl rfl) (pe_tup (pa_cons (pv 5) (pa_cons (pv 6) pa_nil))))
            (pss_one
              (ps_for PassesOwn.never rfl (pi_list (pe_lst (pa_cons pe_non (pa_cons pe_int (pa_cons (pe_callB call_len_seq (by rfl) T.m_len (by decide +kernel) (pa_cons (pv 6) pa_nil)) (pa_cons pe_str (pa_cons (pe_join pe_str (pv 5)) (pa_cons (pv 5) (pa_cons (pv 6) (pa_cons (pv 12) (pa_cons (pe_lst pa_nil) (pa_cons (pe_tup pa_nil) pa_nil)))))))))))) (pg_name (i := 13) sc_law.nd rfl (.inl rfl))
                (pss_one
                  (ps_if (pt_not (pt_val (pe_call (ok_law_compared T) (hr.mono (by decide)) (by rfl) T.g_law_compared T.F_law_compared.kp T.b_law_compared .nil pass0 (pa_cons (pe_ix ix_list (pv 7) (pv 9) (fun _ _ => rfl)) (pa_cons (pv 13) (pa_cons pe_bl pa_nil))))))
                    (pss_one
                      (ps_ret pe_bl))
                    pss_nil))))))))))))))))
    (pss_one
      (ps_ret pe_bl)))), ?_⟩
    refine ⟨_, rfl, a, ns, rfl, hS, hl, fun d g H1 s1 hD1 => ?_⟩
    refine ⟨_, rfl, d, g, 3, rfl, hD1, by decide, by decide +kernel, fun n H2 n0 n1 hD2 k2 => ⟨_, _, rfl, rfl, _, rfl, by omega, by omega, for_range (n := _) (fun i σ H' => ∃ x2 x3 x4 x5 x6 x7 x8 x9 x10 x11 x12 x13 : Option V, Deck H' d g ∧ σ = [some (.ref a), some (.ref d), x2, x3, x4, x5, x6, x7, x8, x9, x10, x11, x12, x13]) ⟨_, _, _, _, _, _, _, _, _, _, _, _, hD2, rfl⟩ ?_ ?_⟩⟩
    · clear hD1 s1 hD2 k2 H1 H2
      rintro i0 σ H0 _ ⟨x2, x3, x4, x5, x6, x7, x8, x9, x10, x11, x12, x13, hD0, rfl⟩
      refine ⟨_, rfl, d, g, 12, 39, rfl, hD0, by decide, by decide, by decide, by decide, fun u0 t0 r0 ts0 as0 ls0 H2 s2 ft0 fr0 eu0 lt0 lr0 _ rl0 okt0 tl0 al0 => ⟨(by show 1 ≤ sizeLine; decide), fun R hR => ?_⟩⟩
      have sR := same_upd (o := .lst ([u0].map V.ref)) hR
      have eR := upd_same (H := H2) (a := R) (o := .lst ([u0].map V.ref))
      have dR := s2.dk.new hR
      have hD3 := s2.dk.same sR
      have row0 : RowB (upd H2 R (.lst ([u0].map V.ref))) d g R u0 (ts0, ls0) := ⟨t0, r0, as0, sR _ _ eu0, lt0.keep (Same.kd sR), ne_of_none lt0.at_ hR, lr0.keep (Same.kd sR), ne_of_none lr0.at_ hR, rl0.keep (Same.tk sR), okt0, tl0, by omega⟩
      show tSeq _ _ _ _ (upd H2 R (.lst ([u0].map V.ref)))
      generalize upd H2 R (.lst ([u0].map V.ref)) = H3 at *
      clear sR hR s2 ft0 fr0 eu0 lt0 lr0 rl0 okt0 tl0 al0
      refine ⟨4, rfl, by decide, by decide, for_range (n := 4) (fun i σ H' => ∃ (us : List Addr) (x4 x5 x6 : Option V), us.length = 1 + i ∧ Deck H' d g ∧ H' R = some (.lst (us.map V.ref)) ∧ (∀ u ∈ us, ∃ x, RowB H' d g R u x) ∧
        σ = [some (.ref a), some (.ref d), some (.int (0 + (i0 : Int))), some (.ref R), x4, x5, x6, x7, x8, x9, x10, x11, x12, x13]) ⟨[u0], _, _, _, rfl, hD3, eR, (fun u hu => by
          rw [List.mem_singleton.mp hu]
          exact ⟨_, row0⟩), rfl⟩ ?_ ?_⟩
      · clear row0 eR hD3 H3
        rintro i σ H1 hi ⟨us, x4, x5, x6, ul, hD1, eR1, rows, rfl⟩
        refine ⟨_, rfl, _, rfl, _, rfl, R, _, rfl, .inl (.of eR1), d, g, _, rfl, hD1, ?_, ?_, fun w H2 w0 w1 hD2 k2 => ?_⟩
        · rw [List.length_map]; omega
        · exact small_log (by rw [List.length_map]; omega)
        rw [List.length_map] at w1
        obtain ⟨j, rfl⟩ := Int.eq_ofNat_of_zero_le w0
        have hj : j < us.length := by omega
        obtain ⟨⟨ts, ls⟩, rw1⟩ := rows _ (List.getElem_mem hj)
        have rw2 := rw1.kr hD1 eR1 fun b o e n1 n2 _ => k2 b o e n1 n2
        have gu : (us.map V.ref)[j]? = some (V.ref us[j]) := by rw [List.getElem?_map, List.getElem?_eq_getElem hj]; rfl
        have eR2 := k2 _ _ eR1 dR.1 dR.2
        obtain ⟨t, r, as, eu, lt, nt, lr, nr, rl, okt, tl, al⟩ := rw2
        refine ⟨R, _, _, V.ref us[j], rfl, rfl, .of eR2, at_of (j := j) (by omega) gu, us[j], _, rfl, .of eu, rfl, _, _, rfl, _, _, rfl, rfl, ?_⟩
        have rows2 : ∀ u ∈ us, ∃ x, RowB H2 d g R u x := fun u hu => by
          obtain ⟨x, h⟩ := rows u hu
          exact ⟨x, h.kr hD1 eR1 fun b o e n1 n2 _ => k2 b o e n1 n2⟩
        refine ⟨_, rfl, .inl ⟨rfl, _, .of eR2⟩, _, rfl, _, rfl, _, rfl, _, rfl, r, _, rfl, .of lr.at_, fun S hS => ?_⟩
        have e39 : cutV (as.map V.ref) none (some 39) = (as.take 39).map V.ref := cut_t as 39
        rw [e39]
        have sS := same_upd (o := .lst ((as.take 39).map V.ref)) hS
        have dS := hD2.new hS
        refine ⟨d, g, t, S, ts, as.take 39, ls.take 39, rfl, hD2.same sS, lt.keep (Same.kd sS), ⟨upd_same, dS.1, dS.2⟩, (rl.take 39).keep (Same.tk sS), okt, tl, by rw [List.length_take]; omega, fun u T1 R1 H4 ci fT fR eu4 => ?_⟩
        obtain ⟨ts1, as1, ls1, s4, eT1, eR14, rl1, okt1, tl1, al1⟩ := ci
        have eR4 := s4.kd _ _ (sS _ _ eR2) dR.1 dR.2
        have k4 : Kd d g H2 H4 := (Same.kd sS).trans s4.kd
        refine ⟨R, _, _, rfl, rfl, eR4, ?_, ?_⟩
        · rw [List.length_map]; exact small1000 (by omega)
        rw [← map_snoc_ref]
        have uR : u ≠ R := ne_of eu4 eR4 (by intro z; cases z)
        have T1R : T1 ≠ R := fun z => by rw [z, sS _ _ eR2] at fT; cases fT
        have R1R : R1 ≠ R := fun z => by rw [z, sS _ _ eR2] at fR; cases fR
        have dT1 := (hD2.same sS).new fT
        have dR1 := (hD2.same sS).new fR
        refine ⟨us ++ [u], _, _, _, by rw [List.length_append, ul]; rfl, ?_, upd_same, fun v hv => ?_, rfl⟩
        · obtain ⟨gs, a0, m0, g1, g2, g3⟩ := s4.dk
          exact ⟨gs, a0, m0, by rw [upd_ne dR.1.symm]; exact g1, by rw [upd_ne dR.2.symm]; exact g2, g3⟩
        · rcases List.mem_append.mp hv with h | h
          · obtain ⟨x, h⟩ := rows2 v h
            exact ⟨x, h.kr hD2 eR2 fun b o e n1 n2 n3 => by rw [upd_ne n3]; exact k4 b o e n1 n2⟩
          · rw [List.mem_singleton.mp h]
            exact ⟨(ts1, ls1), T1, R1, as1, by rw [upd_ne uR]; exact eu4, ⟨by rw [upd_ne T1R]; exact eT1, dT1.1, dT1.2⟩, T1R, ⟨by rw [upd_ne R1R]; exact eR14, dR1.1, dR1.2⟩, R1R, rl1.keep (tk_mut eR4), okt1, tl1, al1⟩
      clear row0 eR hD3 H3
      rintro σ H1 ⟨us, x4, x5, x6, ul, hD1, eR1, rows, rfl⟩
      have ul5 : us.length = 5 := ul
      obtain ⟨f, hf⟩ : ∃ f : Nat → TL, ∀ (j : Nat) (u : Addr), us[j]? = some u → RowB H1 d g R u (f j) := by
        have h : ∀ j : Nat, ∃ x : TL, ∀ u, us[j]? = some u → RowB H1 d g R u x := fun j => by
          cases e : us[j]? with
          | none => exact ⟨([], []), fun u h => by cases h⟩
          | some u =>
            obtain ⟨x, h⟩ := rows u (List.mem_of_getElem? e)
            exact ⟨x, fun v hv => by cases hv; exact h⟩
        exact ⟨fun j => Classical.choose (h j), fun j => Classical.choose_spec (h j)⟩
      clear rows ul
      -- books
      refine ⟨_, rfl, R, rfl, ⟨_, .of eR1⟩, fun D hDn => ?_⟩
      have DR : D ≠ R := fun z => by rw [z, eR1] at hDn; cases hDn
      refine lc_list (xs := us.map V.ref) (fun i H' => ∃ cs : List Addr, cs.length = i ∧ H' D = some (.lst (cs.map V.ref)) ∧ Same H1 H' ∧ ∀ j c, cs[j]? = some c → BkX T.C_Book H' d g D R c (f j)) ⟨[], rfl, upd_same, same_upd hDn, fun j c h => by cases h⟩ (fun i H' _ h => ?_) ?_ ?_
      · obtain ⟨_, _, _, h, _⟩ := h
        exact .of (h _ _ eR1)
      · rintro i v H2 hi ⟨cs, cl, eD, s2, cn⟩
        rw [List.getElem?_map] at hi
        obtain ⟨u, hu, rfl⟩ := Option.map_eq_some_iff.mp hi
        have hil := (List.getElem?_eq_some_iff.mp hu).1
        obtain ⟨t, r, as, eu, lt, nt, lr, nr, rl, okt, tl, al⟩ := hf i u hu
        refine ⟨u, _, rfl, .of (s2 _ _ eu), rfl, _, _, rfl, _, _, rfl, rfl, rfl, _, rfl, t, _, rfl, .inl (.of (s2 _ _ lt.at_)), fun G1 hG1 => ⟨_, rfl, r, _, rfl, .inl (.of (same_upd hG1 _ _ (s2 _ _ lr.at_))), fun G2 hG2 => ?_⟩⟩
        have sG1 := same_upd (o := .lst ((f i).1.map V.str)) hG1
        have sG2 := same_upd (o := .lst (as.map V.ref)) hG2
        refine mkB (sG1.trans sG2) (sG2 _ _ upd_same) upd_same ((rl.keep (Same.tk s2)).keep (Same.tk (sG1.trans sG2))) okt fun x dx p q bs H5 s4 fp fq ex ep eq rb => ?_
        have eD5 := s4 _ _ eD
        have eR5 := s4 _ _ (s2 _ _ eR1)
        have hDk := hD1.same s2
        have nP : p ≠ D ∧ p ≠ R := ⟨ne_fr fp eD, ne_fr fp (s2 _ _ eR1)⟩
        have nQ : q ≠ D ∧ q ≠ R := ⟨ne_fr fq eD, ne_fr fq (s2 _ _ eR1)⟩
        refine ⟨cs.map V.ref, eD5, ?_, cs ++ [x], by rw [List.length_append, cl]; rfl, by rw [upd_same, map_snoc_ref], fun b o e => ?_, fun j c hc => ?_⟩
        · rw [List.length_map]; exact small1000 (by omega)
        · rw [upd_ne (ne_of_none e hDn)]
          exact s4 _ _ (s2 _ _ e)
        · rcases Nat.lt_or_ge j cs.length with h | h
          · rw [List.getElem?_append_left h] at hc
            exact (cn j c hc).up (.inl rfl) s4 eD5
          · rw [List.getElem?_append_right h] at hc
            have hj : j = i := by
              have := (List.getElem?_eq_some_iff.mp hc).1
              rw [List.length_singleton] at this
              omega
            subst hj
            rw [show j - cs.length = 0 by omega] at hc
            cases hc
            have b0 : BkX T.C_Book H5 d g D R x (f j) := ⟨dx, p, q, bs, ex, ⟨ep, (hDk.new fp).1, (hDk.new fp).2⟩, nP, ⟨eq, (hDk.new fq).1, (hDk.new fq).2⟩, nQ, rb⟩
            exact b0.up (.inl rfl) (Same.refl _) eD5
      rintro H2 ⟨cs, cl, eD, s2, cn⟩
      rw [List.length_map] at cl
      have hD2 := hD1.same s2
      have dD := hD1.new hDn
      have eR2 := s2 _ _ eR1
      have h0 : us[0]? = some us[0] := List.getElem?_eq_getElem (by omega)
      obtain ⟨t, r, as, eu0, lt0, nt, lr0, nr, rl0, okt, tl, al⟩ := hf 0 us[0] h0
      have gu0 : (us.map V.ref)[0]? = some (V.ref us[0]) := by rw [List.getElem?_map, h0]; rfl
      have tD : t ≠ D := ne_of_none lt0.at_ hDn
      have rD : r ≠ D := ne_of_none lr0.at_ hDn
      have lt2 := lt0.keep (Same.kd s2)
      have lr2 := lr0.keep (Same.kd s2)
      have rl2 := rl0.keep (Same.tk s2)
      refine ⟨_, rfl, R, _, _, V.ref us[0], rfl, rfl, .of eR2, at_of (j := 0) (by omega) gu0, us[0], _, rfl, .of (s2 _ _ eu0), rfl, _, _, rfl, _, _, rfl, rfl, ?_⟩
      refine ⟨_, rfl, _, rfl, r, _, rfl, .inl (.of lr2.at_), _, _, rfl, rfl, d, g, _, rfl, hD2, ?_, ?_, fun c H3 c0 c1 hD3 k3 => ?_⟩
      · show (0 : Int) < ((as.map V.ref).length : Int) + 1
        omega
      · exact small_log (by show (((as.map V.ref).length : Int) + 1).natAbs < 1024; rw [List.length_map]; omega)
      have c2 : c < ((as.map V.ref).length : Int) + 1 := c1
      rw [List.length_map] at c2
      obtain ⟨c, rfl⟩ := Int.eq_ofNat_of_zero_le c0
      have eD3 := k3 _ _ eD dD.1 dD.2
      have eR3 := k3 _ _ eR2 dR.1 dR.2
      have lt3 := lt2.keep k3
      have lr3 := lr2.keep k3
      have rl3 := rl2.keep (Kd.tk k3 hD2)
      have alen := rl3.len
      -- the book by another road
      refine ⟨_, rfl, .inl ⟨rfl, _, .of eD3⟩, _, rfl, t, _, rfl, .inl (.of lt3.at_), fun N hN => ?_⟩
      have sN := same_upd (o := .lst ((f 0).1.map V.str)) hN
      refine ⟨_, rfl, _, rfl, _, rfl, r, _, rfl, .of (sN _ _ lr3.at_), fun W hW => ?_⟩
      rw [cut_t] at *
      have sW := same_upd (o := .lst ((as.take c).map V.ref)) hW
      refine mkB (Same.refl _) (sW _ _ upd_same) upd_same ((rl3.take c).keep (Same.tk (sN.trans sW))) okt fun x dx p q as' H4 sm fp fq ex ep eq rl => ?_
      have s34 := (sN.trans sW).trans sm
      refine ⟨x, dx, _, rfl, ex, fl_with p q, _, rfl, _, rfl, _, rfl, r, _, rfl, .of (s34 _ _ lr3.at_), fun W2 hW2 => ?_⟩
      rw [cut_d] at *
      have sW2 := same_upd (o := .lst ((as.drop c).map V.ref)) hW2
      have s35 := s34.trans sW2
      refine ⟨x, W2, (f 0).1, (f 0).2.take c, (f 0).2.drop c, as.drop c, rfl, ⟨dx, p, q, as', sW2 _ _ ex, sW2 _ _ ep, sW2 _ _ eq, rl.keep (Same.tk sW2)⟩, upd_same, (rl3.drop c).keep (Same.tk s35), okt, by rw [List.length_take]; omega, by rw [List.length_drop]; omega, fun y dy p2 q2 as2 H6 sm2 fp2 fq2 ey ep2 eq2 rly => ?_⟩
      rw [List.take_append_drop] at rly
      have s36 := s35.trans sm2
      have eD6 := s36 _ _ eD3
      have eR6 := s36 _ _ eR3
      have hD6 := hD3.same s36
      have nP : p2 ≠ D ∧ p2 ≠ R := ⟨ne_fr fp2 (s35 _ _ eD3), ne_fr fp2 (s35 _ _ eR3)⟩
      have nQ : q2 ≠ D ∧ q2 ≠ R := ⟨ne_fr fq2 (s35 _ _ eD3), ne_fr fq2 (s35 _ _ eR3)⟩
      have by0 : BkX T.C_Book H6 d g D R y (f 0) := ⟨dy, p2, q2, as2, ey, ⟨ep2, ((hD3.same s35).new fp2).1, ((hD3.same s35).new fp2).2⟩, nP, ⟨eq2, ((hD3.same s35).new fq2).1, ((hD3.same s35).new fq2).2⟩, nQ, rly⟩
      refine ⟨D, _, _, rfl, rfl, eD6, ?_, ?_⟩
      · rw [List.length_map]; exact small1000 (by omega)
      have hD7 : Deck (upd H6 D (.lst (cs.map V.ref ++ [V.ref y]))) d g := deck_mv hD6 dD
      have by7 : BkX T.C_Book (upd H6 D (.lst (cs.map V.ref ++ [V.ref y]))) d g D R y (f 0) := by0.up (.inl rfl) (Same.refl _) eD6
      have cn7 : ∀ j c, cs[j]? = some c → BkX T.C_Book (upd H6 D (.lst (cs.map V.ref ++ [V.ref y]))) d g D R c (f j) := fun j c hc => ((cn j c hc).kd hD2 k3).up (.inl rfl) s36 eD6
      have eR7 : (upd H6 D (.lst (cs.map V.ref ++ [V.ref y]))) R = some (.lst (us.map V.ref)) := by rw [upd_ne DR.symm]; exact eR6
      have eD7 := upd_same (H := H6) (a := D) (o := .lst (cs.map V.ref ++ [V.ref y]))
      have k17 : ∀ b o, H1 b = some o → b ≠ d → b ≠ g → b ≠ R → (upd H6 D (.lst (cs.map V.ref ++ [V.ref y]))) b = some o := fun b o e n1 n2 n3 => by
        rw [upd_ne (ne_of_none e hDn)]
        exact s36 _ _ (k3 _ _ (s2 _ _ e) n1 n2)
      generalize upd H6 D (.lst (cs.map V.ref ++ [V.ref y])) = H7 at *
      -- its data
      refine ⟨_, rfl, .inl ⟨rfl, _, .of eR7⟩, _, rfl, _, rfl, (by show 2 ≤ sizeLine; decide), fun U hU => ?_⟩
      have sU := same_upd (o := .tup [.ref t, .ref r]) hU
      have eU := upd_same (H := H7) (a := U) (o := .tup [.ref t, .ref r])
      have eR8 := sU _ _ eR7
      refine ⟨R, _, _, rfl, rfl, eR8, ?_, ?_⟩
      · rw [List.length_map]; exact small1000 (by omega)
      have row : ∀ j u, us[j]? = some u → RowB (upd (upd H7 U (.tup [.ref t, .ref r])) R (.lst (us.map V.ref ++ [V.ref U]))) d g R u (f j) := fun j u hu => (hf j u hu).kr hD1 eR1 fun b o e n1 n2 n3 => by
        rw [upd_ne n3]
        exact sU _ _ (k17 b o e n1 n2 n3)
      have UR : U ≠ R := ne_fr hU eR7
      have tk9 : Tk H1 (upd (upd H7 U (.tup [.ref t, .ref r])) R (.lst (us.map V.ref ++ [V.ref U]))) := kr_tk hD1 eR1 fun b o e n1 n2 n3 => by
        rw [upd_ne n3]
        exact sU _ _ (k17 b o e n1 n2 n3)
      have lt9 : Lat (upd (upd H7 U (.tup [.ref t, .ref r])) R (.lst (us.map V.ref ++ [V.ref U]))) d g t ((f 0).1.map V.str) := ⟨by rw [upd_ne nt]; exact sU _ _ (k17 _ _ lt0.at_ lt0.nd lt0.ng nt), lt0.nd, lt0.ng⟩
      have lr9 : Lat (upd (upd H7 U (.tup [.ref t, .ref r])) R (.lst (us.map V.ref ++ [V.ref U]))) d g r (as.map V.ref) := ⟨by rw [upd_ne nr]; exact sU _ _ (k17 _ _ lr0.at_ lr0.nd lr0.ng nr), lr0.nd, lr0.ng⟩
      have rowU : RowB (upd (upd H7 U (.tup [.ref t, .ref r])) R (.lst (us.map V.ref ++ [V.ref U]))) d g R U (f 0) := ⟨t, r, as, by rw [upd_ne UR]; exact eU, lt9, nt, lr9, nr, rl0.keep tk9, okt, tl, al⟩
      have bk : ∀ j c, cs[j]? = some c → BkX T.C_Book (upd (upd H7 U (.tup [.ref t, .ref r])) R (.lst (us.map V.ref ++ [V.ref U]))) d g D R c (f j) := fun j c hc => (cn7 j c hc).up (.inr rfl) sU eR8
      have bky : BkX T.C_Book (upd (upd H7 U (.tup [.ref t, .ref r])) R (.lst (us.map V.ref ++ [V.ref U]))) d g D R y (f 0) := by7.up (.inr rfl) sU eR8
      have hD9 : Deck (upd (upd H7 U (.tup [.ref t, .ref r])) R (.lst (us.map V.ref ++ [V.ref U]))) d g := deck_mv (hD7.same sU) dR
      have eD9 : (upd (upd H7 U (.tup [.ref t, .ref r])) R (.lst (us.map V.ref ++ [V.ref U]))) D = some (.lst (cs.map V.ref ++ [V.ref y])) := by rw [upd_ne DR]; exact sU _ _ eD7
      have eR9 := upd_same (H := upd H7 U (.tup [.ref t, .ref r])) (a := R) (o := .lst (us.map V.ref ++ [V.ref U]))
      generalize upd (upd H7 U (.tup [.ref t, .ref r])) R (.lst (us.map V.ref ++ [V.ref U])) = H9 at *
      have data : ∀ j, j < 6 → ∃ u, ∃ x : TL, (us.map V.ref ++ [V.ref U])[j]? = some (V.ref u) ∧ RowB H9 d g R u x ∧ ∃ c, (cs.map V.ref ++ [V.ref y])[j]? = some (V.ref c) ∧ BkX T.C_Book H9 d g D R c x := fun j hj => by
        rcases Nat.lt_or_ge j 5 with h | h
        · have hu : us[j]? = some us[j] := List.getElem?_eq_getElem (by omega)
          have hc : cs[j]? = some cs[j] := List.getElem?_eq_getElem (by omega)
          exact ⟨us[j], f j, by rw [List.getElem?_append_left (by rw [List.length_map]; omega), List.getElem?_map, hu]; rfl, row j _ hu, cs[j], by rw [List.getElem?_append_left (by rw [List.length_map]; omega), List.getElem?_map, hc]; rfl, bk j _ hc⟩
        · have h5 : j = 5 := by omega
          subst h5
          exact ⟨U, f 0, by rw [List.getElem?_append_right (by rw [List.length_map]; omega), List.length_map, ul5]; rfl, rowU, y, by rw [List.getElem?_append_right (by rw [List.length_map]; omega), List.length_map, cl, ul5]; rfl, bky⟩
      clear tk9 row bk bky cn7 by7 k17 eR8 eU sU hU eR7 eD7 hD7 by0 cn k3
      refine ⟨_, rfl, d, g, 6, rfl, hD9, by decide, fun q1 os1 H10 s10 fq1 eq1 n1 n2 oin1 ol1 ond1 => ⟨q1, rfl, ⟨_, .of eq1⟩, ?_⟩⟩
      refine for_list (xs := os1.map V.int) (fun i σ H' => Std H10 H' d g ∧ ∃ x9 x10 x11 x12 x13 : Option V, σ = [some (.ref a), some (.ref d), some (.int (0 + (i0 : Int))), some (.ref R), x4, some (.ref t), some (.ref r), some (.ref D), some (.int (c : Int)), x9, x10, x11, x12, x13]) ⟨Std.refl s10.dk, _, _, _, _, _, rfl⟩ (fun i σ H' _ h => .of (h.1.kd _ _ eq1 n1 n2)) ?_ ?_
      · rintro i1 v1 σ H11 hi1 ⟨s11, x9, x10, x11, x12, x13, rfl⟩
        obtain ⟨z1, hz1, rfl⟩ := List.mem_map.mp (List.mem_of_getElem? hi1)
        obtain ⟨z10, z11⟩ := oin1 z1 hz1
        obtain ⟨o1, rfl⟩ := Int.eq_ofNat_of_zero_le z10
        have ho1 : o1 < 6 := by omega
        obtain ⟨u1, y1, g1, rw1, c1, gc1, b1⟩ := data o1 ho1
        have t11 := s10.trans s11
        refine ⟨_, rfl, d, g, 6, rfl, s11.dk, by decide, fun q2 os2 H12 s12 fq2 eq2 m1 m2 oin2 ol2 ond2 => ⟨q2, rfl, ⟨_, .of eq2⟩, ?_⟩⟩
        have t12 := t11.trans s12
        refine for_list (xs := os2.map V.int) (fun i σ H' => Std H12 H' d g ∧ ∃ x10 x11 : Option V, σ = [some (.ref a), some (.ref d), some (.int (0 + (i0 : Int))), some (.ref R), x4, some (.ref t), some (.ref r), some (.ref D), some (.int (c : Int)), some (.int (o1 : Int)), x10, x11, x12, x13]) ⟨Std.refl s12.dk, _, _, rfl⟩ (fun i σ H' _ h => .of (h.1.kd _ _ eq2 m1 m2)) ?_ ?_
        · rintro i2 v2 σ H13 hi2 ⟨s13, x10, x11, rfl⟩
          obtain ⟨z2, hz2, rfl⟩ := List.mem_map.mp (List.mem_of_getElem? hi2)
          obtain ⟨z20, z21⟩ := oin2 z2 hz2
          obtain ⟨o2, rfl⟩ := Int.eq_ofNat_of_zero_le z20
          obtain ⟨u2, y2, g2, rw2, c2, gc2, b2⟩ := data o2 (by omega)
          have t13 := t12.trans s13
          have eR13 := t13.kd _ _ eR9 dR.1 dR.2
          have eD13 := t13.kd _ _ eD9 dD.1 dD.2
          have e1 := rw1.kr hD9 eR9 fun b o e n1 n2 _ => t13.kd b o e n1 n2
          have e2 := rw2.kr hD9 eR9 fun b o e n1 n2 _ => t13.kd b o e n1 n2
          obtain ⟨ta, ra, aa, eu1, lta, _, lra, _, rla, oka, _⟩ := e1
          obtain ⟨tb, rb, ab, eu2, ltb, _, lrb, _, rlb, okb, _⟩ := e2
          refine ⟨_, rfl, _, rfl, R, _, _, V.ref u1, rfl, rfl, .of eR13, at_of (j := o1) (by omega) g1, _, rfl, _, rfl, R, _, _, V.ref u2, rfl, rfl, .of eR13, at_of (j := o2) (by omega) g2,
            .tuple [tdata y1.1, rsdata y1.2], .tuple [tdata y2.1, rsdata y2.2], .tup (.of eu1) (.cons (.lst (.of lta.at_) dp_strs) (.cons (.lst (.of lra.at_) rla.dp) .nil)), .tup (.of eu2) (.cons (.lst (.of ltb.at_) dp_strs) (.cons (.lst (.of lrb.at_) rlb.dp) .nil)), pair_ok oka rla.all, pair_ok okb rlb.all, ?_⟩
          exact ⟨_, rfl, _, rfl, D, _, _, V.ref c1, rfl, rfl, .of eD13, at_of (j := o1) (by omega) gc1, _, rfl, _, rfl, D, _, _, V.ref c2, rfl, rfl, .of eD13, at_of (j := o2) (by omega) gc2, _, rfl,
            c1, .ref c2, _, rfl, ⟨_, _, (b1.kd hD9 t13.kd).r, oka, .inr ⟨c2, _, _, rfl, (b2.kd hD9 t13.kd).r, okb, due_eq _ _ _ _⟩⟩, fun H14 s14 => ⟨_, rfl, s13.same s14, _, _, rfl⟩⟩
        · rintro σ H13 ⟨s13, x10, x11, rfl⟩
          have t13 := t12.trans s13
          have lt13 := lt9.keep t13.kd
          have lr13 := lr9.keep t13.kd
          have eD13 := t13.kd _ _ eD9 dD.1 dD.2
          -- pair
          refine ⟨_, rfl, _, rfl, (by show 2 ≤ sizeLine; decide), fun X hX => ?_⟩
          have sX := same_upd (o := .tup [.ref t, .ref r]) hX
          have eX := upd_same (H := H13) (a := X) (o := .tup [.ref t, .ref r])
          have t14 := t13.same sX
          generalize upd H13 X (.tup [.ref t, .ref r]) = H14 at *
          refine ⟨_, rfl, r, _, rfl, .inl (.of (sX _ _ lr13.at_)), ⟨_, rfl⟩, _, rfl, " ", t, (f 0).1, rfl, rfl, .inl (.of (sX _ _ lt13.at_)), ?_, _, rfl, _, rfl, _, rfl, Nat.zero_le _, fun Z hZ => ⟨Nat.zero_le _, fun Y hY => ⟨(by show 10 ≤ sizeLine; decide), fun L hL => ?_⟩⟩⟩
          · have h := sum_le (f 0).1 fun z hz => (okt.nm z hz).few
            have h1 : (" " : Str).length = 1 := by decide +kernel
            rw [h1]
            omega
          generalize Txt.join " " (f 0).1 = jn
          generalize ((as.map V.ref).length : Int) = ln
          have sZ := same_upd (o := .lst []) hZ
          have eZ := upd_same (H := H14) (a := Z) (o := .lst [])
          have sY := same_upd (o := .tup []) hY
          have eY := upd_same (H := upd H14 Z (.lst [])) (a := Y) (o := .tup [])
          have dZ := t14.dk.new hZ
          have t16 := (t14.same sZ).same sY
          have dL := t16.dk.new hL
          have sL := same_upd (o := .lst [V.non, .int 0, .int ln, .str (Str.ofString ""), .str jn, .ref t, .ref r, .ref X, .ref Z, .ref Y]) hL
          have eL := upd_same (H := upd (upd H14 Z (.lst [])) Y (.tup [])) (a := L) (o := .lst [V.non, .int 0, .int ln, .str (Str.ofString ""), .str jn, .ref t, .ref r, .ref X, .ref Z, .ref Y])
          have s17 := (sZ.trans sY).trans sL
          have eZ17 := sL _ _ (sY _ _ eZ)
          have eY17 := sL _ _ eY
          refine ⟨L, rfl, ⟨_, .of upd_same⟩, ?_⟩
          generalize upd (upd (upd H14 Z (.lst [])) Y (.tup [])) L (.lst [V.non, .int 0, .int ln, .str (Str.ofString ""), .str jn, .ref t, .ref r, .ref X, .ref Z, .ref Y]) = H17 at *
          have t17 := t14.same s17
          have hD17 := t17.dk
          have lt17 := (lt13.keep (Same.kd sX)).keep (Same.kd s17)
          have lr17 := (lr13.keep (Same.kd sX)).keep (Same.kd s17)
          have eX17 := s17 _ _ eX
          refine for_list (xs := [V.non, .int 0, .int ln, .str (Str.ofString ""), .str jn, .ref t, .ref r, .ref X, .ref Z, .ref Y]) (fun i σ H' => Std H17 H' d g ∧ ∃ x13 : Option V, σ = [some (.ref a), some (.ref d), some (.int (0 + (i0 : Int))), some (.ref R), x4, some (.ref t), some (.ref r), some (.ref D), some (.int (c : Int)), some (.int (o1 : Int)), x10, x11, some (.ref X), x13]) ⟨Std.refl hD17, _, rfl⟩ (fun i σ H' _ h => .of (h.1.kd _ _ eL dL.1 dL.2)) ?_ ?_
          · rintro i v σ H18 hv ⟨s18, x13, rfl⟩
            have t18 := t17.trans s18
            have kind : Kind H18 v := by
              have hm := List.mem_of_getElem? hv
              simp only [List.mem_cons, List.not_mem_nil, or_false] at hm
              rcases hm with rfl | rfl | rfl | rfl | rfl | rfl | rfl | rfl | rfl | rfl
              · exact .inl rfl
              · exact .inr (.inl ⟨_, rfl⟩)
              · exact .inr (.inl ⟨_, rfl⟩)
              · exact .inr (.inr (.inl ⟨_, rfl⟩))
              · exact .inr (.inr (.inl ⟨_, rfl⟩))
              · exact .inr (.inr (.inr (.inl ⟨t, _, rfl, (lt17.keep s18.kd).at_⟩)))
              · exact .inr (.inr (.inr (.inl ⟨r, _, rfl, (lr17.keep s18.kd).at_⟩)))
              · exact .inr (.inr (.inr (.inr ⟨X, _, rfl, Kd.tk s18.kd hD17 _ _ eX17⟩)))
              · exact .inr (.inr (.inr (.inl ⟨Z, _, rfl, s18.kd _ _ eZ17 dZ.1 dZ.2⟩)))
              · exact .inr (.inr (.inr (.inr ⟨Y, _, rfl, Kd.tk s18.kd hD17 _ _ eY17⟩)))
            obtain ⟨_, _, _, _, _, _, _, _, _, ok1, _⟩ := rw1
            exact ⟨_, rfl, _, rfl, D, _, _, V.ref c1, rfl, rfl, .of (t18.kd _ _ eD9 dD.1 dD.2), at_of (j := o1) (by omega) gc1, _, rfl, c1, v, false, rfl, ⟨_, _, (b1.kd hD9 t18.kd).r, ok1, .inl ⟨kind, rfl⟩⟩, fun H19 s19 => ⟨_, rfl, s18.same s19, _, rfl⟩⟩
          · rintro σ H18 ⟨s18, x13, rfl⟩
            exact ⟨((((s11.trans s12).trans s13).same sX).same s17).trans s18, _, _, _, _, _, rfl⟩
      · rintro σ H11 ⟨s11, x9, x10, x11, x12, x13, rfl⟩
        exact ⟨_, _, _, _, _, _, _, _, _, _, _, _, s11.dk, rfl⟩
    · rintro σ H2 _
      exact k _
end
theorem all_mk {l : PySem.W.OpenLaw} {w : World} {K : PySem.W.Frag} {h : Heap} {mg : Str → Option Value} {fa f_is_name f_check_tasks f_check_rule f_Book_init f_Book_tasks f_Book_rules f_Book_with_rules f_Book_len f_Book_eq f_law_deck f_law_draw f_law_names f_law_rule f_law_data f_law_order f_law_changed f_law_compared f_law : Addr} (X : K.In h) (G : h.Ns mainGlobals mg) (hfa : mg "law" = some (.ref fa))
    {C_Book : Addr}
    {d__TASKS_IN : Addr} {e__TASKS_IN : Array DictEntry} {i__TASKS_IN : Nat}
    {t__TASKS_IN_before : Tok}
    {t__TASKS_IN_upto : Tok}
    {t__TASKS_IN_same : Tok}
    {t__TASKS_IN_apart : Tok}
    {t__TASKS_IN_far : Tok}
    {t__TASKS_IN_next : Tok}
    {t__TASKS_IN_first : Tok}
    {t__TASKS_IN_last : Tok}
    {t__LONGEST_NAME : Tok}
    {od_is_name an_is_name : Option Addr} {sl_is_name : Array (Option Value)} {oc_is_name kV_is_name dc_is_name pm_is_name cd_is_name ct_is_name : Value}
    {od_check_tasks an_check_tasks : Option Addr} {sl_check_tasks : Array (Option Value)} {oc_check_tasks kV_check_tasks dc_check_tasks pm_check_tasks cd_check_tasks ct_check_tasks : Value}
    {od_check_rule an_check_rule : Option Addr} {sl_check_rule : Array (Option Value)} {oc_check_rule kV_check_rule dc_check_rule pm_check_rule cd_check_rule ct_check_rule : Value}
    {od_Book_init an_Book_init : Option Addr} {sl_Book_init : Array (Option Value)} {oc_Book_init kV_Book_init dc_Book_init pm_Book_init cd_Book_init ct_Book_init : Value}
    {od_Book_tasks an_Book_tasks : Option Addr} {sl_Book_tasks : Array (Option Value)} {oc_Book_tasks kV_Book_tasks dc_Book_tasks pm_Book_tasks cd_Book_tasks ct_Book_tasks : Value}
    {p_Book_tasks : Addr} {r_Book_tasks : List Value}
    {od_Book_rules an_Book_rules : Option Addr} {sl_Book_rules : Array (Option Value)} {oc_Book_rules kV_Book_rules dc_Book_rules pm_Book_rules cd_Book_rules ct_Book_rules : Value}
    {p_Book_rules : Addr} {r_Book_rules : List Value}
    {od_Book_with_rules an_Book_with_rules : Option Addr} {sl_Book_with_rules : Array (Option Value)} {oc_Book_with_rules kV_Book_with_rules dc_Book_with_rules pm_Book_with_rules cd_Book_with_rules ct_Book_with_rules : Value}
    {od_Book_len an_Book_len : Option Addr} {sl_Book_len : Array (Option Value)} {oc_Book_len kV_Book_len dc_Book_len pm_Book_len cd_Book_len ct_Book_len : Value}
    {od_Book_eq an_Book_eq : Option Addr} {sl_Book_eq : Array (Option Value)} {oc_Book_eq kV_Book_eq dc_Book_eq pm_Book_eq cd_Book_eq ct_Book_eq : Value}
    {od_law_deck an_law_deck : Option Addr} {sl_law_deck : Array (Option Value)} {oc_law_deck kV_law_deck dc_law_deck pm_law_deck cd_law_deck ct_law_deck : Value}
    {od_law_draw an_law_draw : Option Addr} {sl_law_draw : Array (Option Value)} {oc_law_draw kV_law_draw dc_law_draw pm_law_draw cd_law_draw ct_law_draw : Value}
    {od_law_names an_law_names : Option Addr} {sl_law_names : Array (Option Value)} {oc_law_names kV_law_names dc_law_names pm_law_names cd_law_names ct_law_names : Value}
    {od_law_rule an_law_rule : Option Addr} {sl_law_rule : Array (Option Value)} {oc_law_rule kV_law_rule dc_law_rule pm_law_rule cd_law_rule ct_law_rule : Value}
    {od_law_data an_law_data : Option Addr} {sl_law_data : Array (Option Value)} {oc_law_data kV_law_data dc_law_data pm_law_data cd_law_data ct_law_data : Value}
    {od_law_order an_law_order : Option Addr} {sl_law_order : Array (Option Value)} {oc_law_order kV_law_order dc_law_order pm_law_order cd_law_order ct_law_order : Value}
    {od_law_changed an_law_changed : Option Addr} {sl_law_changed : Array (Option Value)} {oc_law_changed kV_law_changed dc_law_changed pm_law_changed cd_law_changed ct_law_changed : Value}
    {od_law_compared an_law_compared : Option Addr} {sl_law_compared : Array (Option Value)} {oc_law_compared kV_law_compared dc_law_compared pm_law_compared cd_law_compared ct_law_compared : Value}
    {od_law an_law : Option Addr} {sl_law : Array (Option Value)} {oc_law kV_law dc_law pm_law cd_law ct_law : Value}
    (aC_Book : PySem.W.nsIn K mainGlobals "Book" = some (some (.ref C_Book)))
    (pg_Book : PySem.W.plainGet K C_Book Str.empty = true)
    (hd_Book : PySem.W.hasDictIn K C_Book = true)
    (po_Book : PySem.W.plainOver K C_Book = true)
    (sa_Book : PySem.W.findIn K (.ref C_Book) "__setattr__" = some (some (.builtin "object.__setattr__")))
    (ms_Book : PySem.W.makesIn K C_Book = true)
    (kc_Book : PySem.W.keepIn K (.ref C_Book) = true)
    (n_Book_tasks : PySem.W.findIn K (.ref C_Book) "_tasks" = some none)
    (n_Book_rules : PySem.W.findIn K (.ref C_Book) "_rules" = some none)
    (ga__TASKS_IN : PySem.W.nsIn K mainGlobals "_TASKS_IN" = some (some (.ref d__TASKS_IN)))
    (gl__TASKS_IN : K.lookup d__TASKS_IN = some ⟨.type "dict", none, .dict e__TASKS_IN i__TASKS_IN, #[]⟩)
    (gk__TASKS_IN : PySem.W.KeysLit w.params e__TASKS_IN.toList)
    (gs__TASKS_IN : (d__TASKS_IN == sysModules) = false)
    (gv__TASKS_IN_before : PySem.W.nsIn K d__TASKS_IN "before" = some (some (.int 2 t__TASKS_IN_before)))
    (gv__TASKS_IN_upto : PySem.W.nsIn K d__TASKS_IN "upto" = some (some (.int 2 t__TASKS_IN_upto)))
    (gv__TASKS_IN_same : PySem.W.nsIn K d__TASKS_IN "same" = some (some (.int 2 t__TASKS_IN_same)))
    (gv__TASKS_IN_apart : PySem.W.nsIn K d__TASKS_IN "apart" = some (some (.int 2 t__TASKS_IN_apart)))
    (gv__TASKS_IN_far : PySem.W.nsIn K d__TASKS_IN "far" = some (some (.int 2 t__TASKS_IN_far)))
    (gv__TASKS_IN_next : PySem.W.nsIn K d__TASKS_IN "next" = some (some (.int 2 t__TASKS_IN_next)))
    (gv__TASKS_IN_first : PySem.W.nsIn K d__TASKS_IN "first" = some (some (.int 1 t__TASKS_IN_first)))
    (gv__TASKS_IN_last : PySem.W.nsIn K d__TASKS_IN "last" = some (some (.int 1 t__TASKS_IN_last)))
    (gv__LONGEST_NAME : PySem.W.nsIn K mainGlobals "_LONGEST_NAME" = some (some (.int 8 t__LONGEST_NAME)))
    (a_is_name : PySem.W.nsIn K mainGlobals "_is_name" = some (some (.ref f_is_name)))
    (l_is_name : K.lookup f_is_name = some ⟨oc_is_name, od_is_name, .func (PySem.W.fnOf "_is_name" "_is_name" (defArgs s_is_name) (defBody s_is_name) (defScope s_is_name) .none kV_is_name dc_is_name pm_is_name an_is_name cd_is_name ct_is_name), sl_is_name⟩)
    (c_is_name : PySem.W.codeIn K cd_is_name "_is_name" = true)
    (k_is_name : PySem.W.keepIn K (.ref f_is_name) = true)
    (a_check_tasks : PySem.W.nsIn K mainGlobals "_check_tasks" = some (some (.ref f_check_tasks)))
    (l_check_tasks : K.lookup f_check_tasks = some ⟨oc_check_tasks, od_check_tasks, .func (PySem.W.fnOf "_check_tasks" "_check_tasks" (defArgs s_check_tasks) (defBody s_check_tasks) (defScope s_check_tasks) .none kV_check_tasks dc_check_tasks pm_check_tasks an_check_tasks cd_check_tasks ct_check_tasks), sl_check_tasks⟩)
    (c_check_tasks : PySem.W.codeIn K cd_check_tasks "_check_tasks" = true)
    (k_check_tasks : PySem.W.keepIn K (.ref f_check_tasks) = true)
    (a_check_rule : PySem.W.nsIn K mainGlobals "_check_rule" = some (some (.ref f_check_rule)))
    (l_check_rule : K.lookup f_check_rule = some ⟨oc_check_rule, od_check_rule, .func (PySem.W.fnOf "_check_rule" "_check_rule" (defArgs s_check_rule) (defBody s_check_rule) (defScope s_check_rule) .none kV_check_rule dc_check_rule pm_check_rule an_check_rule cd_check_rule ct_check_rule), sl_check_rule⟩)
    (c_check_rule : PySem.W.codeIn K cd_check_rule "_check_rule" = true)
    (k_check_rule : PySem.W.keepIn K (.ref f_check_rule) = true)
    (a_Book_init : PySem.W.findIn K (.ref C_Book) "__init__" = some (some (.ref f_Book_init)))
    (i_Book_init : PySem.W.isFn K (.ref f_Book_init) = true)
    (l_Book_init : K.lookup f_Book_init = some ⟨oc_Book_init, od_Book_init, .func (PySem.W.fnOf "__init__" "Book.__init__" (defArgs s_Book_init) (defBody s_Book_init) (defScope s_Book_init) .none kV_Book_init dc_Book_init pm_Book_init an_Book_init cd_Book_init ct_Book_init), sl_Book_init⟩)
    (c_Book_init : PySem.W.codeIn K cd_Book_init "Book.__init__" = true)
    (k_Book_init : PySem.W.keepIn K (.ref f_Book_init) = true)
    (a_Book_tasks : PySem.W.findIn K (.ref C_Book) "tasks" = some (some (.ref p_Book_tasks)))
    (ps_Book_tasks : PySem.W.specialIn K (.ref p_Book_tasks) "__get__" = some (some (.builtin "property.__get__")))
    (pt_Book_tasks : PySem.W.takesIn K (.ref p_Book_tasks) = some true)
    (pr_Book_tasks : PySem.W.recIn K p_Book_tasks "property" = some (.ref f_Book_tasks :: r_Book_tasks))
    (l_Book_tasks : K.lookup f_Book_tasks = some ⟨oc_Book_tasks, od_Book_tasks, .func (PySem.W.fnOf "tasks" "Book.tasks" (defArgs s_Book_tasks) (defBody s_Book_tasks) (defScope s_Book_tasks) .none kV_Book_tasks dc_Book_tasks pm_Book_tasks an_Book_tasks cd_Book_tasks ct_Book_tasks), sl_Book_tasks⟩)
    (c_Book_tasks : PySem.W.codeIn K cd_Book_tasks "Book.tasks" = true)
    (k_Book_tasks : PySem.W.keepIn K (.ref f_Book_tasks) = true)
    (a_Book_rules : PySem.W.findIn K (.ref C_Book) "rules" = some (some (.ref p_Book_rules)))
    (ps_Book_rules : PySem.W.specialIn K (.ref p_Book_rules) "__get__" = some (some (.builtin "property.__get__")))
    (pt_Book_rules : PySem.W.takesIn K (.ref p_Book_rules) = some true)
    (pr_Book_rules : PySem.W.recIn K p_Book_rules "property" = some (.ref f_Book_rules :: r_Book_rules))
    (l_Book_rules : K.lookup f_Book_rules = some ⟨oc_Book_rules, od_Book_rules, .func (PySem.W.fnOf "rules" "Book.rules" (defArgs s_Book_rules) (defBody s_Book_rules) (defScope s_Book_rules) .none kV_Book_rules dc_Book_rules pm_Book_rules an_Book_rules cd_Book_rules ct_Book_rules), sl_Book_rules⟩)
    (c_Book_rules : PySem.W.codeIn K cd_Book_rules "Book.rules" = true)
    (k_Book_rules : PySem.W.keepIn K (.ref f_Book_rules) = true)
    (a_Book_with_rules : PySem.W.findIn K (.ref C_Book) "with_rules" = some (some (.ref f_Book_with_rules)))
    (i_Book_with_rules : PySem.W.isFn K (.ref f_Book_with_rules) = true)
    (l_Book_with_rules : K.lookup f_Book_with_rules = some ⟨oc_Book_with_rules, od_Book_with_rules, .func (PySem.W.fnOf "with_rules" "Book.with_rules" (defArgs s_Book_with_rules) (defBody s_Book_with_rules) (defScope s_Book_with_rules) .none kV_Book_with_rules dc_Book_with_rules pm_Book_with_rules an_Book_with_rules cd_Book_with_rules ct_Book_with_rules), sl_Book_with_rules⟩)
    (c_Book_with_rules : PySem.W.codeIn K cd_Book_with_rules "Book.with_rules" = true)
    (k_Book_with_rules : PySem.W.keepIn K (.ref f_Book_with_rules) = true)
    (a_Book_len : PySem.W.findIn K (.ref C_Book) "__len__" = some (some (.ref f_Book_len)))
    (i_Book_len : PySem.W.isFn K (.ref f_Book_len) = true)
    (l_Book_len : K.lookup f_Book_len = some ⟨oc_Book_len, od_Book_len, .func (PySem.W.fnOf "__len__" "Book.__len__" (defArgs s_Book_len) (defBody s_Book_len) (defScope s_Book_len) .none kV_Book_len dc_Book_len pm_Book_len an_Book_len cd_Book_len ct_Book_len), sl_Book_len⟩)
    (c_Book_len : PySem.W.codeIn K cd_Book_len "Book.__len__" = true)
    (k_Book_len : PySem.W.keepIn K (.ref f_Book_len) = true)
    (a_Book_eq : PySem.W.findIn K (.ref C_Book) "__eq__" = some (some (.ref f_Book_eq)))
    (i_Book_eq : PySem.W.isFn K (.ref f_Book_eq) = true)
    (l_Book_eq : K.lookup f_Book_eq = some ⟨oc_Book_eq, od_Book_eq, .func (PySem.W.fnOf "__eq__" "Book.__eq__" (defArgs s_Book_eq) (defBody s_Book_eq) (defScope s_Book_eq) .none kV_Book_eq dc_Book_eq pm_Book_eq an_Book_eq cd_Book_eq ct_Book_eq), sl_Book_eq⟩)
    (c_Book_eq : PySem.W.codeIn K cd_Book_eq "Book.__eq__" = true)
    (k_Book_eq : PySem.W.keepIn K (.ref f_Book_eq) = true)
    (a_law_deck : PySem.W.nsIn K mainGlobals "_law_deck" = some (some (.ref f_law_deck)))
    (l_law_deck : K.lookup f_law_deck = some ⟨oc_law_deck, od_law_deck, .func (PySem.W.fnOf "_law_deck" "_law_deck" (defArgs s_law_deck) (defBody s_law_deck) (defScope s_law_deck) .none kV_law_deck dc_law_deck pm_law_deck an_law_deck cd_law_deck ct_law_deck), sl_law_deck⟩)
    (c_law_deck : PySem.W.codeIn K cd_law_deck "_law_deck" = true)
    (k_law_deck : PySem.W.keepIn K (.ref f_law_deck) = true)
    (a_law_draw : PySem.W.nsIn K mainGlobals "_law_draw" = some (some (.ref f_law_draw)))
    (l_law_draw : K.lookup f_law_draw = some ⟨oc_law_draw, od_law_draw, .func (PySem.W.fnOf "_law_draw" "_law_draw" (defArgs s_law_draw) (defBody s_law_draw) (defScope s_law_draw) .none kV_law_draw dc_law_draw pm_law_draw an_law_draw cd_law_draw ct_law_draw), sl_law_draw⟩)
    (c_law_draw : PySem.W.codeIn K cd_law_draw "_law_draw" = true)
    (k_law_draw : PySem.W.keepIn K (.ref f_law_draw) = true)
    (a_law_names : PySem.W.nsIn K mainGlobals "_law_names" = some (some (.ref f_law_names)))
    (l_law_names : K.lookup f_law_names = some ⟨oc_law_names, od_law_names, .func (PySem.W.fnOf "_law_names" "_law_names" (defArgs s_law_names) (defBody s_law_names) (defScope s_law_names) .none kV_law_names dc_law_names pm_law_names an_law_names cd_law_names ct_law_names), sl_law_names⟩)
    (c_law_names : PySem.W.codeIn K cd_law_names "_law_names" = true)
    (k_law_names : PySem.W.keepIn K (.ref f_law_names) = true)
    (a_law_rule : PySem.W.nsIn K mainGlobals "_law_rule" = some (some (.ref f_law_rule)))
    (l_law_rule : K.lookup f_law_rule = some ⟨oc_law_rule, od_law_rule, .func (PySem.W.fnOf "_law_rule" "_law_rule" (defArgs s_law_rule) (defBody s_law_rule) (defScope s_law_rule) .none kV_law_rule dc_law_rule pm_law_rule an_law_rule cd_law_rule ct_law_rule), sl_law_rule⟩)
    (c_law_rule : PySem.W.codeIn K cd_law_rule "_law_rule" = true)
    (k_law_rule : PySem.W.keepIn K (.ref f_law_rule) = true)
    (a_law_data : PySem.W.nsIn K mainGlobals "_law_data" = some (some (.ref f_law_data)))
    (l_law_data : K.lookup f_law_data = some ⟨oc_law_data, od_law_data, .func (PySem.W.fnOf "_law_data" "_law_data" (defArgs s_law_data) (defBody s_law_data) (defScope s_law_data) .none kV_law_data dc_law_data pm_law_data an_law_data cd_law_data ct_law_data), sl_law_data⟩)
    (c_law_data : PySem.W.codeIn K cd_law_data "_law_data" = true)
    (k_law_data : PySem.W.keepIn K (.ref f_law_data) = true)
    (a_law_order : PySem.W.nsIn K mainGlobals "_law_order" = some (some (.ref f_law_order)))
    (l_law_order : K.lookup f_law_order = some ⟨oc_law_order, od_law_order, .func (PySem.W.fnOf "_law_order" "_law_order" (defArgs s_law_order) (defBody s_law_order) (defScope s_law_order) .none kV_law_order dc_law_order pm_law_order an_law_order cd_law_order ct_law_order), sl_law_order⟩)
    (c_law_order : PySem.W.codeIn K cd_law_order "_law_order" = true)
    (k_law_order : PySem.W.keepIn K (.ref f_law_order) = true)
    (a_law_changed : PySem.W.nsIn K mainGlobals "_law_changed" = some (some (.ref f_law_changed)))
    (l_law_changed : K.lookup f_law_changed = some ⟨oc_law_changed, od_law_changed, .func (PySem.W.fnOf "_law_changed" "_law_changed" (defArgs s_law_changed) (defBody s_law_changed) (defScope s_law_changed) .none kV_law_changed dc_law_changed pm_law_changed an_law_changed cd_law_changed ct_law_changed), sl_law_changed⟩)
    (c_law_changed : PySem.W.codeIn K cd_law_changed "_law_changed" = true)
    (k_law_changed : PySem.W.keepIn K (.ref f_law_changed) = true)
    (a_law_compared : PySem.W.nsIn K mainGlobals "_law_compared" = some (some (.ref f_law_compared)))
    (l_law_compared : K.lookup f_law_compared = some ⟨oc_law_compared, od_law_compared, .func (PySem.W.fnOf "_law_compared" "_law_compared" (defArgs s_law_compared) (defBody s_law_compared) (defScope s_law_compared) .none kV_law_compared dc_law_compared pm_law_compared an_law_compared cd_law_compared ct_law_compared), sl_law_compared⟩)
    (c_law_compared : PySem.W.codeIn K cd_law_compared "_law_compared" = true)
    (k_law_compared : PySem.W.keepIn K (.ref f_law_compared) = true)
    (a_law : PySem.W.nsIn K mainGlobals "law" = some (some (.ref f_law)))
    (l_law : K.lookup f_law = some ⟨oc_law, od_law, .func (PySem.W.fnOf "law" "law" (defArgs s_law) (defBody s_law) (defScope s_law) .none kV_law dc_law pm_law an_law cd_law ct_law), sl_law⟩)
    (c_law : PySem.W.codeIn K cd_law "law" = true)
    (k_law : PySem.W.keepIn K (.ref f_law) = true)
    (z_all : PySem.W.nsIn K mainGlobals "all" = some none)
    (z_bool : PySem.W.nsIn K mainGlobals "bool" = some none)
    (z_int : PySem.W.nsIn K mainGlobals "int" = some none)
    (z_isinstance : PySem.W.nsIn K mainGlobals "isinstance" = some none)
    (z_len : PySem.W.nsIn K mainGlobals "len" = some none)
    (z_list : PySem.W.nsIn K mainGlobals "list" = some none)
    (z_range : PySem.W.nsIn K mainGlobals "range" = some none)
    (xa_Book : PySem.W.findIn K (.ref C_Book) "__class__" = some (some (.builtin "object.__class__")))
    (xn_Book : PySem.W.specialIn K (.builtin "object.__class__") "__get__" = some (some (.builtin "getset_descriptor.__get__")))
    (xt_Book : PySem.W.takesIn K (.builtin "object.__class__") = some true)
    (xm_Book : PySem.W.mroIn K C_Book (.type "object") = some true)
    (tc_Book : PySem.W.typeIn K (.ref C_Book) = some (.type "type"))
    (ne_Book : PySem.W.findIn K (.ref C_Book) "__ne__" = some (some (.builtin "object.__ne__")))
    (z0_Book : PySem.W.mroIn K C_Book (.type "NoneType") = some false)
    (z1_Book : PySem.W.mroIn K C_Book (.type "int") = some false)
    (z2_Book : PySem.W.mroIn K C_Book (.type "str") = some false)
    (z3_Book : PySem.W.mroIn K C_Book (.type "list") = some false)
    (z4_Book : PySem.W.mroIn K C_Book (.type "tuple") = some false)
    : ∃ fd : FuncData, (∀ (s : Shared) (v : Value), BindsTo s fd ⟨[v], []⟩ [("script", v)]) ∧ ∀ base : Heap, K.In base → base.Ns mainGlobals mg → FnOk l.prog w K mg base CX0 6 fa fd ["script"] (spLaw K) := by
  have e := hfa.symm.trans (PySem.W.mg_of X G a_law)
  cases e
  have F_is_name := fun_mk (st := s_is_name) l_is_name c_is_name k_is_name
  have b_is_name := F_is_name.binds (ps := ["text"]) fun _ _ _ _ _ _ us hl => match us, hl with | [_], _ => rfl
  have F_check_tasks := fun_mk (st := s_check_tasks) l_check_tasks c_check_tasks k_check_tasks
  have b_check_tasks := F_check_tasks.binds (ps := ["tasks"]) fun _ _ _ _ _ _ us hl => match us, hl with | [_], _ => rfl
  have F_check_rule := fun_mk (st := s_check_rule) l_check_rule c_check_rule k_check_rule
  have b_check_rule := F_check_rule.binds (ps := ["rule", "tasks"]) fun _ _ _ _ _ _ us hl => match us, hl with | [_, _], _ => rfl
  have F_Book_init := fun_mk (st := s_Book_init) l_Book_init c_Book_init k_Book_init
  have b_Book_init := F_Book_init.binds (ps := ["self", "tasks", "rules"]) fun _ _ _ _ _ _ us hl => match us, hl with | [_, _, _], _ => rfl
  have F_Book_tasks := fun_mk (st := s_Book_tasks) l_Book_tasks c_Book_tasks k_Book_tasks
  have b_Book_tasks := F_Book_tasks.binds (ps := ["self"]) fun _ _ _ _ _ _ us hl => match us, hl with | [_], _ => rfl
  have F_Book_rules := fun_mk (st := s_Book_rules) l_Book_rules c_Book_rules k_Book_rules
  have b_Book_rules := F_Book_rules.binds (ps := ["self"]) fun _ _ _ _ _ _ us hl => match us, hl with | [_], _ => rfl
  have F_Book_with_rules := fun_mk (st := s_Book_with_rules) l_Book_with_rules c_Book_with_rules k_Book_with_rules
  have b_Book_with_rules := F_Book_with_rules.binds (ps := ["self", "rules"]) fun _ _ _ _ _ _ us hl => match us, hl with | [_, _], _ => rfl
  have F_Book_len := fun_mk (st := s_Book_len) l_Book_len c_Book_len k_Book_len
  have b_Book_len := F_Book_len.binds (ps := ["self"]) fun _ _ _ _ _ _ us hl => match us, hl with | [_], _ => rfl
  have F_Book_eq := fun_mk (st := s_Book_eq) l_Book_eq c_Book_eq k_Book_eq
  have b_Book_eq := F_Book_eq.binds (ps := ["self", "other"]) fun _ _ _ _ _ _ us hl => match us, hl with | [_, _], _ => rfl
  have F_law_deck := fun_mk (st := s_law_deck) l_law_deck c_law_deck k_law_deck
  have b_law_deck := F_law_deck.binds (ps := ["script"]) fun _ _ _ _ _ _ us hl => match us, hl with | [_], _ => rfl
  have F_law_draw := fun_mk (st := s_law_draw) l_law_draw c_law_draw k_law_draw
  have b_law_draw := F_law_draw.binds (ps := ["deck", "many"]) fun _ _ _ _ _ _ us hl => match us, hl with | [_, _], _ => rfl
  have F_law_names := fun_mk (st := s_law_names) l_law_names c_law_names k_law_names
  have b_law_names := F_law_names.binds (ps := ["deck", "many"]) fun _ _ _ _ _ _ us hl => match us, hl with | [_, _], _ => rfl
  have F_law_rule := fun_mk (st := s_law_rule) l_law_rule c_law_rule k_law_rule
  have b_law_rule := F_law_rule.binds (ps := ["deck", "task_list"]) fun _ _ _ _ _ _ us hl => match us, hl with | [_, _], _ => rfl
  have F_law_data := fun_mk (st := s_law_data) l_law_data c_law_data k_law_data
  have b_law_data := F_law_data.binds (ps := ["deck", "most_tasks", "most_rules"]) fun _ _ _ _ _ _ us hl => match us, hl with | [_, _, _], _ => rfl
  have F_law_order := fun_mk (st := s_law_order) l_law_order c_law_order k_law_order
  have b_law_order := F_law_order.binds (ps := ["deck", "many"]) fun _ _ _ _ _ _ us hl => match us, hl with | [_, _], _ => rfl
  have F_law_changed := fun_mk (st := s_law_changed) l_law_changed c_law_changed k_law_changed
  have b_law_changed := F_law_changed.binds (ps := ["deck", "task_list", "rule_list"]) fun _ _ _ _ _ _ us hl => match us, hl with | [_, _, _], _ => rfl
  have F_law_compared := fun_mk (st := s_law_compared) l_law_compared c_law_compared k_law_compared
  have b_law_compared := F_law_compared.binds (ps := ["one", "two", "due"]) fun _ _ _ _ _ _ us hl => match us, hl with | [_, _, _], _ => rfl
  have F_law := fun_mk (st := s_law) l_law c_law k_law
  have b_law := F_law.binds (ps := ["script"]) fun _ _ _ _ _ _ us hl => match us, hl with | [_], _ => rfl
  let T : Tx K w mg := {  C_Book := C_Book, cl_Book := ⟨pg_Book, hd_Book, po_Book, sa_Book⟩, mg_Book := PySem.W.mg_of X G aC_Book, n_Book_tasks := n_Book_tasks, n_Book_rules := n_Book_rules, d__TASKS_IN := d__TASKS_IN, e__TASKS_IN := e__TASKS_IN, i__TASKS_IN := i__TASKS_IN, g__TASKS_IN := PySem.W.mg_of X G ga__TASKS_IN, kd__TASKS_IN := ⟨gl__TASKS_IN, gk__TASKS_IN, gs__TASKS_IN⟩, k__TASKS_IN_before := ⟨_, gv__TASKS_IN_before⟩, k__TASKS_IN_upto := ⟨_, gv__TASKS_IN_upto⟩, k__TASKS_IN_same := ⟨_, gv__TASKS_IN_same⟩, k__TASKS_IN_apart := ⟨_, gv__TASKS_IN_apart⟩, k__TASKS_IN_far := ⟨_, gv__TASKS_IN_far⟩, k__TASKS_IN_next := ⟨_, gv__TASKS_IN_next⟩, k__TASKS_IN_first := ⟨_, gv__TASKS_IN_first⟩, k__TASKS_IN_last := ⟨_, gv__TASKS_IN_last⟩, t__LONGEST_NAME := _, v__LONGEST_NAME := PySem.W.mg_of X G gv__LONGEST_NAME, f_is_name := f_is_name, d_is_name := _, F_is_name := F_is_name, b_is_name := b_is_name, g_is_name := PySem.W.mg_of X G a_is_name, f_check_tasks := f_check_tasks, d_check_tasks := _, F_check_tasks := F_check_tasks, b_check_tasks := b_check_tasks, g_check_tasks := PySem.W.mg_of X G a_check_tasks, f_check_rule := f_check_rule, d_check_rule := _, F_check_rule := F_check_rule, b_check_rule := b_check_rule, g_check_rule := PySem.W.mg_of X G a_check_rule, f_Book_init := f_Book_init, d_Book_init := _, F_Book_init := F_Book_init, b_Book_init := b_Book_init, mk_Book := ⟨ms_Book, a_Book_init, i_Book_init, kc_Book⟩, f_Book_tasks := f_Book_tasks, d_Book_tasks := _, F_Book_tasks := F_Book_tasks, b_Book_tasks := b_Book_tasks, p_Book_tasks := p_Book_tasks, pr_Book_tasks := ⟨a_Book_tasks, ps_Book_tasks, pt_Book_tasks, ⟨_, pr_Book_tasks⟩⟩, f_Book_rules := f_Book_rules, d_Book_rules := _, F_Book_rules := F_Book_rules, b_Book_rules := b_Book_rules, p_Book_rules := p_Book_rules, pr_Book_rules := ⟨a_Book_rules, ps_Book_rules, pt_Book_rules, ⟨_, pr_Book_rules⟩⟩, f_Book_with_rules := f_Book_with_rules, d_Book_with_rules := _, F_Book_with_rules := F_Book_with_rules, b_Book_with_rules := b_Book_with_rules, me_Book_with_rules := ⟨a_Book_with_rules, i_Book_with_rules, k_Book_with_rules⟩, f_Book_len := f_Book_len, d_Book_len := _, F_Book_len := F_Book_len, b_Book_len := b_Book_len, me_Book_len := ⟨a_Book_len, i_Book_len, k_Book_len⟩, f_Book_eq := f_Book_eq, d_Book_eq := _, F_Book_eq := F_Book_eq, b_Book_eq := b_Book_eq, me_Book_eq := ⟨a_Book_eq, i_Book_eq, k_Book_eq⟩, f_law_deck := f_law_deck, d_law_deck := _, F_law_deck := F_law_deck, b_law_deck := b_law_deck, g_law_deck := PySem.W.mg_of X G a_law_deck, f_law_draw := f_law_draw, d_law_draw := _, F_law_draw := F_law_draw, b_law_draw := b_law_draw, g_law_draw := PySem.W.mg_of X G a_law_draw, f_law_names := f_law_names, d_law_names := _, F_law_names := F_law_names, b_law_names := b_law_names, g_law_names := PySem.W.mg_of X G a_law_names, f_law_rule := f_law_rule, d_law_rule := _, F_law_rule := F_law_rule, b_law_rule := b_law_rule, g_law_rule := PySem.W.mg_of X G a_law_rule, f_law_data := f_law_data, d_law_data := _, F_law_data := F_law_data, b_law_data := b_law_data, g_law_data := PySem.W.mg_of X G a_law_data, f_law_order := f_law_order, d_law_order := _, F_law_order := F_law_order, b_law_order := b_law_order, g_law_order := PySem.W.mg_of X G a_law_order, f_law_changed := f_law_changed, d_law_changed := _, F_law_changed := F_law_changed, b_law_changed := b_law_changed, g_law_changed := PySem.W.mg_of X G a_law_changed, f_law_compared := f_law_compared, d_law_compared := _, F_law_compared := F_law_compared, b_law_compared := b_law_compared, g_law_compared := PySem.W.mg_of X G a_law_compared, f_law := fa, d_law := _, F_law := F_law, b_law := b_law, g_law := PySem.W.mg_of X G a_law, m_all := PySem.W.mg_none_of X G z_all, m_bool := PySem.W.mg_none_of X G z_bool, m_int := PySem.W.mg_none_of X G z_int, m_isinstance := PySem.W.mg_none_of X G z_isinstance, m_len := PySem.W.mg_none_of X G z_len, m_list := PySem.W.mg_none_of X G z_list, m_range := PySem.W.mg_none_of X G z_range, xa_Book := xa_Book, xn_Book := xn_Book, xt_Book := xt_Book, xm_Book := xm_Book, tc_Book := tc_Book, cm_Book := ⟨⟨z0_Book, z1_Book, z2_Book, z3_Book, z4_Book⟩, xm_Book, ne_Book⟩ }
  exact ⟨PySem.W.fnOf "law" "law" (defArgs s_law) (defBody s_law) (defScope s_law) .none kV_law dc_law pm_law an_law cd_law ct_law, fun s v => .of_eq rfl, fun base _ _ => ok_law T⟩
end K12
open PySem PySem.W PyProof.Rows
set_option maxHeartbeats 0 in
theorem PySem.Challenge.cw_plandays_k12_which_books_are_equal_holds : PySem.Challenge.rw_plandays_k12_which_books_are_equal.Holds := by
  w_on; o_law; k_head; (case hw => w_witness2)
  k_fill
  refine L2.walk_of (l := PySem.Challenge.rw_plandays_k12_which_books_are_equal) (n := 63) (k := 6) (x := "script") (CX := fun _ => L2.CX0) (sp := fun w => K12.spLaw _) rfl (by decide) rfl ⟨rfl, by decide, by decide⟩ (fun w h Y => PySem.W.kIn_of Y) ?F (fun _ _ a ns hl _ hS => ⟨a, ns, rfl, hS, hl, fun _ => rfl⟩) (fun _ _ _ _ _ h => h)
  case F =>
    intro w mg fa h KX G hmg
    refine' K12.all_mk KX G hmg ?aC_Book ?pg_Book ?hd_Book ?po_Book ?sa_Book ?ms_Book ?kc_Book ?n_Book_tasks ?n_Book_rules ?ga__TASKS_IN ?gl__TASKS_IN ?gk__TASKS_IN ?gs__TASKS_IN ?gv__TASKS_IN_before ?gv__TASKS_IN_upto ?gv__TASKS_IN_same ?gv__TASKS_IN_apart ?gv__TASKS_IN_far ?gv__TASKS_IN_next ?gv__TASKS_IN_first ?gv__TASKS_IN_last ?gv__LONGEST_NAME ?a_is_name ?l_is_name ?c_is_name ?k_is_name ?a_check_tasks ?l_check_tasks ?c_check_tasks ?k_check_tasks ?a_check_rule ?l_check_rule ?c_check_rule ?k_check_rule ?a_Book_init ?i_Book_init ?l_Book_init ?c_Book_init ?k_Book_init ?a_Book_tasks ?ps_Book_tasks ?pt_Book_tasks ?pr_Book_tasks ?l_Book_tasks ?c_Book_tasks ?k_Book_tasks ?a_Book_rules ?ps_Book_rules ?pt_Book_rules ?pr_Book_rules ?l_Book_rules ?c_Book_rules ?k_Book_rules ?a_Book_with_rules ?i_Book_with_rules ?l_Book_with_rules ?c_Book_with_rules ?k_Book_with_rules ?a_Book_len ?i_Book_len ?l_Book_len ?c_Book_len ?k_Book_len ?a_Book_eq ?i_Book_eq ?l_Book_eq ?c_Book_eq ?k_Book_eq ?a_law_deck ?l_law_deck ?c_law_deck ?k_law_deck ?a_law_draw ?l_law_draw ?c_law_draw ?k_law_draw ?a_law_names ?l_law_names ?c_law_names ?k_law_names ?a_law_rule ?l_law_rule ?c_law_rule ?k_law_rule ?a_law_data ?l_law_data ?c_law_data ?k_law_data ?a_law_order ?l_law_order ?c_law_order ?k_law_order ?a_law_changed ?l_law_changed ?c_law_changed ?k_law_changed ?a_law_compared ?l_law_compared ?c_law_compared ?k_law_compared ?a_law ?l_law ?c_law ?k_law ?z_all ?z_bool ?z_int ?z_isinstance ?z_len ?z_list ?z_range ?xa_Book ?xn_Book ?xt_Book ?xm_Book ?tc_Book ?ne_Book ?z0_Book ?z1_Book ?z2_Book ?z3_Book ?z4_Book
    (case aC_Book => k_is)
    (case pg_Book => k_is)
    (case hd_Book => k_is)
    (case po_Book => k_is)
    (case sa_Book => k_is)
    (case ms_Book => k_is)
    (case kc_Book => k_is)
    (case n_Book_tasks => k_is)
    (case n_Book_rules => k_is)
    (case ga__TASKS_IN => k_is)
    (case gl__TASKS_IN => k_is)
    (case gk__TASKS_IN => k_keys)
    (case gs__TASKS_IN => decide)
    (case gv__TASKS_IN_before => k_is)
    (case gv__TASKS_IN_upto => k_is)
    (case gv__TASKS_IN_same => k_is)
    (case gv__TASKS_IN_apart => k_is)
    (case gv__TASKS_IN_far => k_is)
    (case gv__TASKS_IN_next => k_is)
    (case gv__TASKS_IN_first => k_is)
    (case gv__TASKS_IN_last => k_is)
    (case gv__LONGEST_NAME => k_is)
    (case a_is_name => k_is)
    (case l_is_name => k_is)
    (case c_is_name => k_is)
    (case k_is_name => k_is)
    (case a_check_tasks => k_is)
    (case l_check_tasks => k_is)
    (case c_check_tasks => k_is)
    (case k_check_tasks => k_is)
    (case a_check_rule => k_is)
    (case l_check_rule => k_is)
    (case c_check_rule => k_is)
    (case k_check_rule => k_is)
    (case a_Book_init => k_is)
    (case i_Book_init => k_is)
    (case l_Book_init => k_is)
    (case c_Book_init => k_is)
    (case k_Book_init => k_is)
    (case a_Book_tasks => k_is)
    (case ps_Book_tasks => k_is)
    (case pt_Book_tasks => k_is)
    (case pr_Book_tasks => k_is)
    (case l_Book_tasks => k_is)
    (case c_Book_tasks => k_is)
    (case k_Book_tasks => k_is)
    (case a_Book_rules => k_is)
    (case ps_Book_rules => k_is)
    (case pt_Book_rules => k_is)
    (case pr_Book_rules => k_is)
    (case l_Book_rules => k_is)
    (case c_Book_rules => k_is)
    (case k_Book_rules => k_is)
    (case a_Book_with_rules => k_is)
    (case i_Book_with_rules => k_is)
    (case l_Book_with_rules => k_is)
    (case c_Book_with_rules => k_is)
    (case k_Book_with_rules => k_is)
    (case a_Book_len => k_is)
    (case i_Book_len => k_is)
    (case l_Book_len => k_is)
    (case c_Book_len => k_is)
    (case k_Book_len => k_is)
    (case a_Book_eq => k_is)
    (case i_Book_eq => k_is)
    (case l_Book_eq => k_is)
    (case c_Book_eq => k_is)
    (case k_Book_eq => k_is)
    (case a_law_deck => k_is)
    (case l_law_deck => k_is)
    (case c_law_deck => k_is)
    (case k_law_deck => k_is)
    (case a_law_draw => k_is)
    (case l_law_draw => k_is)
    (case c_law_draw => k_is)
    (case k_law_draw => k_is)
    (case a_law_names => k_is)
    (case l_law_names => k_is)
    (case c_law_names => k_is)
    (case k_law_names => k_is)
    (case a_law_rule => k_is)
    (case l_law_rule => k_is)
    (case c_law_rule => k_is)
    (case k_law_rule => k_is)
    (case a_law_data => k_is)
    (case l_law_data => k_is)
    (case c_law_data => k_is)
    (case k_law_data => k_is)
    (case a_law_order => k_is)
    (case l_law_order => k_is)
    (case c_law_order => k_is)
    (case k_law_order => k_is)
    (case a_law_changed => k_is)
    (case l_law_changed => k_is)
    (case c_law_changed => k_is)
    (case k_law_changed => k_is)
    (case a_law_compared => k_is)
    (case l_law_compared => k_is)
    (case c_law_compared => k_is)
    (case k_law_compared => k_is)
    (case a_law => k_is)
    (case l_law => k_is)
    (case c_law => k_is)
    (case k_law => k_is)
    (case z_all => k_is)
    (case z_bool => k_is)
    (case z_int => k_is)
    (case z_isinstance => k_is)
    (case z_len => k_is)
    (case z_list => k_is)
    (case z_range => k_is)
    (case xa_Book => k_is)
    (case xn_Book => k_is)
    (case xt_Book => k_is)
    (case xm_Book => k_is)
    (case tc_Book => k_is)
    (case ne_Book => k_is)
    (case z0_Book => k_is)
    (case z1_Book => k_is)
    (case z2_Book => k_is)
    (case z3_Book => k_is)
    (case z4_Book => k_is)

