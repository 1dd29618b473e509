import PyProof.Rows.All
import Wide.All
import OpenK.AllK
import Wide.FinOn
import HandS.ForMost
import HandS.Wide
import HandS.IsInst
import HandS.Codes
import HandS.Conv
import HandS.Style
import HandS.More
import HandS.Property
import HandS.Defaults
import HandS.MakeKwOnly
import KE.KDictZip
import HandS.Dict
import Flt.Len
import HandS.OwnEq
import HandS.SlotsOwn
import HandS.Star
import HandS.Deep
import PySem.Challenge.RW_plandays_k11_rules_in_a_book
set_option Elab.async false
set_option linter.all false
set_option maxRecDepth 100000
namespace K11
open PySem PySem.Spec PyProof.Rows L2
/-! ### rules of my own over the layer's -/
theorem pe_bmK {X : Cx} {K : PySem.W.Frag} (hK : X.K = K) {o e : Expr} {es : List Expr} {to : TE} {t : TA} {name : Str} {apos cpos : Pos} {T id : String} {r : V → List V → Hp → VK → Prop}
    (pa : PlainAttrs T) (slot : Slot T name id) (ty : typeOf (.builtin id) = pure (.type "method_descriptor")) (hm : MtR X id r) (ho : PE X o to) (ha : PA X (e :: es) t)
    (h1 : attributeBase o name X.env (eval o X.env) = eval o X.env := by rfl)
    (h2 : ((backTo cpos (starEach (e :: es) X.env)).all (fun x => !x.1) && (backToKw cpos (keywordEach [] X.env)).all (fun x => x.1.isSome) && decide ((e :: es).length + ([] : List Keyword).length + (if ([] : List Keyword).isEmpty then 0 else 1) < 30)) = true := by rfl)
    (h3 : (apos.endLine == cpos.line) = true := by rfl) (h4 : starEach (e :: es) X.env = (false, eval e X.env) :: starEach es X.env := by rfl) (h5 : (backTo cpos (starEach es X.env)).any (·.1) = false := by rfl) :
    PE X (.Call (.Attribute o name apos) (e :: es) [] cpos) (tBM K T r to t) := by
  subst hK
  exact pe_bm pa slot ty hm ho ha h1 h2 h3 h4 h5
/-- len(x), x of an own class with its own __len__ -/
theorem call_lenOwn {X : Cx} {k : Nat} {C f : Addr} {fd : FuncData} {ps : List Str} {sp : Sp} (c : Cls X.K C) (m : Meth X.K C "__len__" f) (F : FnOk X.prog X.w X.K X.mg X.base CX0 k f fd ps sp) (hr : Room (k + 1) X.A) (hb : Binds X.K fd ps []) :
    CallR X (.builtin "len") (fun xs H Q => ∃ a dx fs, xs = [.ref a] ∧ H a = some (.ins C dx fs) ∧ sp [.ref a] H (fun v H' => ∃ n : Int, v = .int n ∧ 0 ≤ n ∧ n < 2 ^ 63 ∧ Q (.int n) H') E0) := by
  intro pins s σ H xs us Q I r h
  obtain ⟨a, dx, fs, rfl, ea, h⟩ := h
  obtain ⟨u, rfl, ru⟩ := vals1 r
  obtain rfl : u = Value.ref a := ru
  obtain ⟨mA, O, _⟩ := ins_get I.hok ea
  obtain ⟨od, J, _⟩ := O.look
  have hl : ([Value.ref a] ++ ([] : List Value)).length = ps.length := by
    rw [← F.len _ _ _ _ h]
    rfl
  refine Calls.call_function_entry kind_len plain_len entry_len (args_len1 _) ?_
  unfold Builtin.«len»
  refine wpAny_bind (m := oneArg "len" _) (wpAny_pure ?_)
  refine wpAny_bind (m := callSpecial? (.ref a) (Str.ofString "__len__")) (PySem.W.special_fn I.kIn J m.at_ (beq_iff_eq.mp m.fn) ?_)
  refine wpAny_call (codeAny_mono (F.run X.A.in1 X.stack s H ⟨[.ref a], []⟩ [.ref a] [.ref a] _ E0 hr.in1 I.env0.in1 (hb s [.ref a] I.kIn hl) (.cons rfl .nil) h) fun r s' hq => ?_)
  cases r with
  | error er => exact False.elim hq
  | ok fl =>
    cases fl with
    | ret u =>
      obtain ⟨v, H', I3, rv, n, ev, n0, n1, q3⟩ := I.after hq
      subst ev
      obtain ⟨t, rfl⟩ := rv
      refine wpAny_bind (wpAny_holding (wpAny_pure ?_))
      refine wpAny_bind (wpAny_letGo ?_)
      show wpAny _ _ (if n < 0 then _ else _) _ _ _
      rw [if_neg (by omega)]
      show wpAny _ _ (if n ≥ 2 ^ 63 then _ else _) _ _ _
      rw [if_neg (by omega)]
      exact wpAny_bind (wpAny_mkInt (wpAny_pure ⟨_, rfl, .int n, H', I3.tok _, ⟨_, rfl⟩, q3⟩))
    | next => exact False.elim hq
    | brk => exact False.elim hq
    | cont => exact False.elim hq
/-- an item of a dict that the module holds -/
theorem ix_kd {X : Cx} {d : Addr} {es : Array DictEntry} {n : Nat} (D : KDict X.K X.w d es n) : IxR X (fun x y H Q => ∃ (z : Str) (u0 : Value) (v0 : V), x = .ref d ∧ y = .str z ∧ PySem.W.nsIn X.K d z = some (some u0) ∧ RelV v0 u0 ∧ Q v0 H) := by
  intro value slice pins s σ H x y v u Q I rx ry h hs
  have hx : x = .ref d := by
    obtain ⟨z, u0, v0, hx, _⟩ := h
    exact hx
  have h2 := op_item_kd D pins s σ H x y v u Q I rx ry h
  subst hx
  obtain rfl : v = Value.ref d := rx
  exact tail_any (kd_type D I) PySem.slot_dict_getitem.lookup h2 hs
/-- the readings of list(..) and len(..), named -/
def rList (K : PySem.W.Frag) : List V → Hp → VK → Prop := fun xs H Q => ∃ p ys, xs = [.ref p] ∧ (SqL K H p ys ∨ SqT K H p ys) ∧ ∀ l, H l = none → Q (.ref l) (upd H l (.lst ys))
def rLen (K : PySem.W.Frag) : List V → Hp → VK → Prop := fun xs H Q => ∃ p ys, xs = [.ref p] ∧ (SqL K H p ys ∨ SqT K H p ys) ∧ Q (.int ys.length) H
/-- dict(zip(a, b)) -/
def tDictZip (K : PySem.W.Frag) (ta : TA) : TE := fun σ H Q => ta σ H fun vs H1 => ∃ (a b : Addr) (ks : List Key) (ys : List V), vs = [.ref a, .ref b] ∧ SqL K H1 a (ks.map kV) ∧ SqL K H1 b ys ∧ ks.length = ys.length ∧ ∀ d, H1 d = none → Q (.ref d) (upd H1 d (.dK (mergeK [] (ks.zip ys))))
theorem kv_zip : ∀ {ks : List Key} {ys : List V} {us : List Value}, Vals ys us → KV (ks.zip ys) (ks.zip us)
  | [], _, _, _ => .nil
  | _ :: _, _, _, .nil => .nil
  | _ :: _, _, _, .cons r t => .cons ⟨rfl, r⟩ (kv_zip t)
theorem pe_dictZip {X : Cx} {e1 e2 : Expr} {ta : TA} {p p2 pos pos2 : Pos} (hc : X.calm = true) (hg : Gl X "dict") (hm : X.mg "dict" = none) (hg2 : Gl X "zip") (hm2 : X.mg "zip" = none) (ha : PA X [e1, e2] ta)
    (na : starEach [.Call (.Name "zip" p2) [e1, e2] [] pos2] X.env = (false, eval (.Call (.Name "zip" p2) [e1, e2] [] pos2) X.env) :: starEach [] X.env := by rfl)
    (hs : starEach [e1, e2] X.env = (false, eval e1 X.env) :: starEach [e2] X.env := by rfl) (hpl : (backTo pos2 (starEach [e2] X.env)).any (·.1) = false := by rfl) :
    PE X (.Call (.Name "dict" p) [.Call (.Name "zip" p2) [e1, e2] [] pos2] [] pos) (tDictZip X.K ta) := by
  refine ⟨fun pins s σ H Q I h => ?_⟩
  refine Call_ (ld_blt I hg hm PyProof.Rows.boot_dict (PyProof.Rows.callWith_type1 (args_cons (Call_ (ld_blt I hg2 hm2 PyProof.Rows.boot_zip (PyProof.Rows.callWith_type1 (thn (ha.run pos2 pins s σ H _ I h) fun us s1 ⟨vs, H1, I1, r1, q1⟩ => ?_) hs hpl))) na) na))
  obtain ⟨a, b, ks, ys, ex, hqx, hqy, hlen, q⟩ := q1
  subst ex
  obtain ⟨u1, u2, rfl, ra, rb⟩ := vals2 r1
  obtain rfl : u1 = Value.ref a := ra
  obtain rfl : u2 = Value.ref b := rb
  obtain ⟨its, rv, p1, z1⟩ := I1.list hqx
  obtain ⟨its2, rv2, p2, _⟩ := I1.list hqy
  have la : a < s1.heap.objs.size := p1.lt
  have lb : b < s1.heap.objs.size := p2.lt
  have n1 := rv.length
  have n2 := rv2.length
  rw [List.length_map] at n1 z1
  refine call_zip_2 p1.isList p2.isList fun h' hz hTI hTO h1 h2 hsz hk => args_nil ?_
  refine PySem.call_dict_pairs (knd := mixKind X.prog X.w) (kvs := ks.zip its2) (PairArg.zip _ _ _ _ _ _ _ (PySem.W.ktu_apart s1.heap.objs.size a b la lb) its.toArray its2.toArray) (I1.ok.hd hc)
    ⟨hz, hTI, ⟨_, _, hTO⟩, h1, h2, p1.isList.at fun o e => hk _ _ e, p2.isList.at fun o e => hk _ _ e⟩ ⟨?_, fun i key v hr => ?_⟩ ?_ fun h'' tk hd' hk' => ?_
  · rw [List.length_zip, List.size_toArray, List.size_toArray]
    omega
  · obtain ⟨e1, e2⟩ := hr
    have e1' : its[i]? = some key := by simpa using e1
    have e2' : its2[i]? = some v := by simpa using e2
    have hi : i < ks.length := by
      have := (List.getElem?_eq_some_iff.mp e1').1
      omega
    obtain ⟨w', hw, rw'⟩ := rv.get (i := i) (x := kV ks[i]) (by rw [List.getElem?_map, List.getElem?_eq_getElem hi]; rfl)
    rw [e1'] at hw
    obtain rfl := Option.some.inj hw
    refine ⟨ks[i], ?_, kV_is rw'⟩
    rw [List.getElem?_zip_eq_some]
    exact ⟨List.getElem?_eq_getElem hi, e2'⟩
  · rw [List.size_toArray]
    have : min its.length its2.toArray.size ≤ its.length := Nat.min_le_left _ _
    omega
  · have es : h'.objs.size = s1.heap.objs.size + 5 := hsz
    have hm' : (h'.objs.size == sysModules) = false := beq_eq_false_iff_ne.mpr (Nat.ne_of_gt (Nat.lt_of_lt_of_le I1.big (by rw [es]; exact Nat.le_add_right _ _)))
    have hl2 : (mergeK [] (ks.zip ys)).length ≤ sizeLine := by
      refine Nat.le_trans (length_mergeK _ []) ?_
      rw [List.length_nil, Nat.zero_add, List.length_zip]
      omega
    have keep : ∀ c o, s1.heap.get? c = some o → h''.get? c = some o := fun c o e => by
      refine hk' c o ?_ (hk c o e)
      have := Heap.lt_size e
      simp only [List.mem_cons, List.not_mem_nil, or_false, not_or]
      refine ⟨fun z => ?_, fun z => ?_, fun z => ?_, fun z => ?_⟩ <;> rw [z] at this
      · exact absurd this (Nat.not_lt.mpr (Nat.le_add_right _ _))
      · exact absurd this (Nat.not_lt.mpr (Nat.le_add_right _ _))
      · exact absurd this (Nat.lt_irrefl _)
      · exact absurd this (Nat.not_lt.mpr (Nat.le_add_right _ _))
    exact ⟨.ref h'.objs.size, upd H1 h'.objs.size (.dK (mergeK [] (ks.zip ys))), I1.laid (t' := tk) keep (by omega) (show ObjOk X.prog X.w _ _ _ (.dK (mergeK [] (ks.zip ys))) from ⟨hl2, hm', merged [] (ks.zip its2), KV.merge (kv_zip rv2) .nil, hd'⟩), rfl, q _ (I1.hok.fresh (by omega))⟩
theorem pe_callN0 {X : Cx} {CX : CXT} {k : Nat} {f : Addr} {fd : FuncData} {ps ks : List Str} {sp : Sp} {E : XK} {x : Str} {p pos : Pos} {kws : List Keyword} {tk : TA} {g : List Value → List Value → List Value} {gV : List V → List V → List V}
    (F : FnOk X.prog X.w X.K X.mg X.base CX k f fd ps sp) (hr : Room k X.A) (hg : Gl X x) (hm : X.mg x = some (.ref f)) (kp : PySem.W.keepIn X.K (.ref f) = true) (hb : KBn X.K fd ps 0 ks g gV) (hx : Passes CX X E) (hkw : PK X kws tk)
    (h1 : (backToKw pos (keywordEach kws X.env)).all (·.1.isSome) = true := by rfl) (h2 : (backToKw pos (keywordEach kws X.env)).filterMap (·.1) = ks := by rfl) (h3 : (x == ("__debug__" : Str)) = false := by decide)
    (h4 : ((backTo pos (starEach [] X.env)).any (·.1) || (backToKw pos (keywordEach kws X.env)).any (·.1.isNone)) = false := by rfl) :
    PE X (.Call (.Name x p) [] kws pos) (tCallN 0 ks.length sp gV E tNil tk) := by
  refine ⟨fun pins s σ H Q I h => wpAny_Call_Name_kw (ld_glob I hg hm ?_ h3)⟩
  refine PySem.W.callWith_KW0 (h₀ := X.base) I.ok.mod.kin kp h1 ?_ h4
  refine thn (hkw.run pos pins s σ H _ I h) fun ws s2 ⟨zs, H2, I2, rz, l1, l2, q2⟩ => ⟨I2.kIn, ?_⟩
  rw [h2]
  exact run_fnN (us := []) (vs := []) F hr hb hx I2 .nil rz rfl l2 q2
/-! ### a dict of the module: d.get(k, x) -/
def tGetKD (K : PySem.W.Frag) (d : Addr) (td ty tx : TE) : TE := fun σ H Q => td σ H fun x H1 => x = .ref d ∧ ty σ H1 fun y H2 => tx σ H2 fun z H3 => ∃ (k : Str) (r : Option Value) (v0 : V), y = .str k ∧ PySem.W.nsIn K d k = some r ∧ (r = none → v0 = z) ∧ (∀ u0, r = some u0 → RelV v0 u0) ∧ Q v0 H3
theorem pe_getKD {X : Cx} {o e f : Expr} {apos cpos : Pos} {td ty tx : TE} {d : Addr} {es : Array DictEntry} {n : Nat} (D : KDict X.K X.w d es n) (ho : PE X o td) (he : PE X e ty) (hf : PE X f tx) (m : M2 X o "get" apos e f cpos) : PE X (.Call (.Attribute o "get" apos) [e, f] [] cpos) (tGetKD X.K d td ty tx) := by
  refine ⟨fun pins s σ H Q I h => ?_⟩
  refine wpAny_Call_method m.base m.few m.line PySem.F.plainAttrs_dict PySem.F.slot_dict_get PySem.F.type_dict_get (thn (ho.run pins s σ H _ I h) fun u s1 ⟨x, H1, I1, rx, ex, q1⟩ => ?_)
  subst ex
  obtain rfl : u = Value.ref d := rx
  refine ⟨kd_type D I1, fun b q => ?_, ?_⟩
  · cases q
    exact ⟨_, I1.kIn _ _ D.at_, rfl⟩
  rw [m.trees]
  refine Calls.callWith_builtin rfl (Calls.evalArgs_plain (Calls.spliced_cons (thn (he.run pins s1 σ H1 _ I1 q1) fun iv s2 ⟨y, H2, I2, ry, q2⟩ =>
    Calls.spliced_cons (thn (hf.run pins s2 σ H2 _ I2 q2) fun fv s3 ⟨z, H3, I3, rz, k, r, v0, ey, hn, h0, h1, q3⟩ => Calls.spliced_nil ?_))))
  subst ey
  obtain ⟨t, rfl⟩ := ry
  have M := PySem.W.mapOf_K (prog := X.prog) (w := X.w) I3.kIn D.at_ D.lit
  refine call_meetsIn PySem.F.slot_dict_get M.typeIs PySem.F.entry_dict_get (PySem.F.args_dict_get_3 _ _ _) (meets_dict_get_default (strKind X.prog X.w) d (PySem.strKind_is X.prog X.w k t) D.low fv) ⟨_, M, ?_⟩
  have e := PySem.W.find_K D.at_ hn
  rw [e]
  refine ⟨v0, H3, I3.tok _, ?_, q3⟩
  cases r with
  | none => rw [h0 rfl]; exact rz
  | some u0 => exact h1 u0 rfl
/-! ### == of two instances of a class with its own __eq__ -/
def rEqOwn (C : Addr) (sp : Sp) (E : XK) : R2 := fun x y H Q => ∃ a b dx dy fs gs, x = .ref a ∧ y = .ref b ∧ H a = some (.ins C dx fs) ∧ H b = some (.ins C dy gs) ∧ sp [.ref a, .ref b] H Q E
theorem op_eqOwn {X : Cx} {k : Nat} {C f : Addr} {fd : FuncData} {ps : List Str} {sp : Sp} (m : Meth X.K C "__eq__" f) (F : FnOk X.prog X.w X.K X.mg X.base CX0 k f fd ps sp) (hr : Room k X.A) (hb : Binds X.K fd ps []) : OpR X (compareOp .Eq) (rEqOwn C sp E0) := by
  intro pins s σ H x y v u Q I rx ry h
  obtain ⟨a, b, dx, dy, fs, gs, rfl, rfl, ha, hb', h⟩ := h
  obtain rfl : v = Value.ref a := rx
  obtain rfl : u = Value.ref b := ry
  obtain ⟨mA, J, _⟩ := ins_get I.hok ha
  obtain ⟨mB, J', _⟩ := ins_get I.hok hb'
  obtain ⟨od, J, _⟩ := J.look
  obtain ⟨od', J', _⟩ := J'.look
  obtain ⟨m', hF⟩ := I.fr
  have hl : ([Value.ref a, Value.ref b] ++ ([] : List Value)).length = ps.length := by
    rw [← F.len _ _ _ _ h]
    rfl
  show wpAny (model X.prog X.w) X.A (richCompare .Eq (.ref a) (.ref b)) (EP X pins σ Q) X.xe s
  refine PySem.W.cmp_K (op := .Eq) (tb := .ref C) hr.units0 hF I.ok.mod.kin J J'.type (by simp [PySem.W.notFirst]) m.at_ m.fn ?_
  refine wpAny_call (codeAny_mono (F.run X.A X.stack s H ⟨[.ref a, .ref b], []⟩ [.ref a, .ref b] [.ref a, .ref b] _ E0 hr I.env0 (hb s [.ref a, .ref b] I.kIn hl) (.cons rfl (.cons rfl .nil)) h) fun r s' hq => ?_)
  cases r with
  | error er => exact False.elim hq
  | ok fl =>
    cases fl with
    | ret w =>
      obtain ⟨z', H', I', rz, qz⟩ := I.after hq
      exact SlX.cmpback rz ⟨z', H', I', rz, qz⟩
    | next => exact False.elim hq
    | brk => exact False.elim hq
    | cont => exact False.elim hq
/-! ### x & y of two instances of a class with its own __and__ -/
theorem op_andOwn {X : Cx} {k : Nat} {C f : Addr} {fd : FuncData} {ps : List Str} {sp : Sp} (hc : PySem.W.selfFirst X.K C = true) (m : Meth X.K C "__and__" f) (F : FnOk X.prog X.w X.K X.mg X.base CX0 k f fd ps sp) (hr : Room k X.A) (hb : Binds X.K fd ps []) : OpR X (binaryOp .BitAnd) (rEqOwn C sp E0) := by
  intro pins s σ H x y v u Q I rx ry h
  obtain ⟨a, b, dx, dy, fs, gs, rfl, rfl, ha, hb', h⟩ := h
  obtain rfl : v = Value.ref a := rx
  obtain rfl : u = Value.ref b := ry
  obtain ⟨mA, J, _⟩ := ins_get I.hok ha
  obtain ⟨mB, J', _⟩ := ins_get I.hok hb'
  obtain ⟨od, J, _⟩ := J.look
  obtain ⟨od', J', _⟩ := J'.look
  obtain ⟨m', hF⟩ := I.fr
  have hl : ([Value.ref a, Value.ref b] ++ ([] : List Value)).length = ps.length := by
    rw [← F.len _ _ _ _ h]
    rfl
  refine PySem.W.binop_K (op := .BitAnd) hF I.ok.mod.kin J J'.type hc m.at_ m.fn ?_
  refine wpAny_call (codeAny_mono (F.run X.A X.stack s H ⟨[.ref a, .ref b], []⟩ [.ref a, .ref b] [.ref a, .ref b] _ E0 hr I.env0 (hb s [.ref a, .ref b] I.kIn hl) (.cons rfl (.cons rfl .nil)) h) fun r s' hq => ?_)
  cases r with
  | error er => exact False.elim hq
  | ok fl =>
    cases fl with
    | ret w =>
      obtain ⟨z', H', I', rz, qz⟩ := I.after hq
      exact SlX.cmpback rz ⟨z', H', I', rz, qz⟩
    | next => exact False.elim hq
    | brk => exact False.elim hq
    | cont => exact False.elim hq
theorem pe_fldK {X : Cx} {K : PySem.W.Frag} (hK : X.K = K) {e : Expr} {f : Str} {pos : Pos} {ta : TE} (he : PE X e ta) (hb : attributeBase e f X.env (eval e X.env) = eval e X.env) : PE X (.Attribute e f pos) (tFld K ta f) := by
  subst hK
  exact pe_fld he hb
/-! ### how often a value of any depth stands in a list; x in an instance with its own __contains__ -/
def rHowOften (K : PySem.W.Frag) : V → List V → Hp → VK → Prop := fun x xs H Q => ∃ (p : Addr) (y : V) (d : PyData) (ds : List PyData), x = .ref p ∧ xs = [y] ∧
  Dp K H (.ref p) (.list ds) ∧ Dp K H y d ∧ SeqAt.shaped (.list ds) = true ∧ SeqAt.shaped d = true ∧ Q (.int (ds.countP fun z => PyData.eqv z d : Nat)) H
theorem mt_countD {X : Cx} (hu : X.A.units + 65 < cLine) : MtR X "list.count" (rHowOften X.K) := by
  intro pins s σ H x xs v us Q I rx rxs h
  obtain ⟨p, y, d, ds, rfl, rfl, dl, dy, ol, od, q⟩ := h
  cases rx
  obtain ⟨uy, rfl, ry⟩ := rxs.one
  obtain ⟨es, readY⟩ := Dp.reads I d y uy dy ry
  have lay := SeqAt.canLay_of_shaped ol
  have room := room_in_shaped (xs := ds) od hu
  cases dl with
  | lst hs ha =>
    obtain ⟨vals, rv, ⟨⟨c0, d0, b0, sl⟩, n, ho, e1, e2, e3⟩, hlen⟩ := I.list hs
    simp only at e1 e3
    subst e1 e3
    obtain ⟨as, ra⟩ := Dp.readsAll I ds _ vals ha rv
    have back := SeqAt.readsAll_map ds vals as lay ra
    have all : ReadsAll s.heap vals.toArray.toList ds as := ra
    refine call_meets PySem.F.slot_list_count ⟨_, ho, rfl⟩ PySem.F.entry_list_count (PySem.F.args_list_count_2 _ _) (SeqAt.list_countAt p vals.toArray n d0 sl uy (fun u => PyData.eqv (SeqAt.readOf s.heap u) d))
      ⟨ho, SeqAt.items_eqAt all readY lay (SeqAt.canLay_of_shaped od) room, ?_⟩
    have ec : vals.toArray.toList.countP (fun u => PyData.eqv (SeqAt.readOf s.heap u) d) = ds.countP fun z => PyData.eqv z d := by
      conv => rhs; rw [← back]
      rw [List.countP_map]
      rfl
    refine ⟨.int (ds.countP fun z => PyData.eqv z d : Nat), H, I.tok _, ⟨s.toks, ?_⟩, q⟩
    show Value.int ((vals.toArray.toList.countP (fun u => PyData.eqv (SeqAt.readOf s.heap u) d) : Nat) : Int) s.toks = _
    rw [ec]
def rInOwn (C : Addr) (sp : Sp) (E : XK) : R2 := fun x y H Q => ∃ b dx fs, y = .ref b ∧ H b = some (.ins C dx fs) ∧ sp [.ref b, x] H (fun v H' => ∃ t : Bool, v = .bl t ∧ Q (.bl t) H') E
def rNotInOwn (C : Addr) (sp : Sp) (E : XK) : R2 := fun x y H Q => ∃ b dx fs, y = .ref b ∧ H b = some (.ins C dx fs) ∧ sp [.ref b, x] H (fun v H' => ∃ t : Bool, v = .bl t ∧ Q (.bl (!t)) H') E
section
variable {X : Cx} {k : Nat} {C f : Addr} {fd : FuncData} {ps : List Str} {sp : Sp}
theorem op_inOwn (m : Meth X.K C "__contains__" f) (F : FnOk X.prog X.w X.K X.mg X.base CX0 k f fd ps sp) (hr : Room k X.A) (hb : Binds X.K fd ps []) : OpR X (compareOp .In) (rInOwn C sp E0) := by
  intro pins s σ H x y v u Q I rx ry h
  obtain ⟨b, dx, fs, rfl, eb, h⟩ := h
  obtain rfl : u = Value.ref b := ry
  obtain ⟨od, J, _⟩ := (ins_get I.hok eb).choose_spec.1.look
  obtain ⟨m', hF⟩ := I.fr
  have hl : ([Value.ref b, v] ++ ([] : List Value)).length = ps.length := by rw [← F.len _ _ _ _ h]; rfl
  refine PySem.W.in_K hF I.ok.mod.kin J m.at_ m.fn ?_
  refine wpAny_call (codeAny_mono (F.run X.A X.stack s H ⟨[.ref b, v], []⟩ [.ref b, v] [.ref b, x] _ E0 hr I.env0 (hb s [.ref b, v] I.kIn hl) (.cons rfl (.cons rx .nil)) h) fun r s' hq => ?_)
  match r, hq with
  | .ok (.ret w), hq =>
    obtain ⟨z', H', I', rz, t, rfl, qz⟩ := I.after hq
    obtain rfl : w = Value.bool t := rz
    exact wpAny_truthy_bool ⟨.bl t, H', I', rfl, qz⟩
  | .error _, hq => exact False.elim hq
  | .ok .next, hq => exact False.elim hq
  | .ok .brk, hq => exact False.elim hq
  | .ok .cont, hq => exact False.elim hq
theorem op_notInOwn (m : Meth X.K C "__contains__" f) (F : FnOk X.prog X.w X.K X.mg X.base CX0 k f fd ps sp) (hr : Room k X.A) (hb : Binds X.K fd ps []) : OpR X (compareOp .NotIn) (rNotInOwn C sp E0) := by
  intro pins s σ H x y v u Q I rx ry h
  obtain ⟨b, dx, fs, rfl, eb, h⟩ := h
  obtain rfl : u = Value.ref b := ry
  obtain ⟨od, J, _⟩ := (ins_get I.hok eb).choose_spec.1.look
  obtain ⟨m', hF⟩ := I.fr
  have hl : ([Value.ref b, v] ++ ([] : List Value)).length = ps.length := by rw [← F.len _ _ _ _ h]; rfl
  refine PySem.W.notIn_K hF I.ok.mod.kin J m.at_ m.fn ?_
  refine wpAny_call (codeAny_mono (F.run X.A X.stack s H ⟨[.ref b, v], []⟩ [.ref b, v] [.ref b, x] _ E0 hr I.env0 (hb s [.ref b, v] I.kIn hl) (.cons rfl (.cons rx .nil)) h) fun r s' hq => ?_)
  match r, hq with
  | .ok (.ret w), hq =>
    obtain ⟨z', H', I', rz, t, rfl, qz⟩ := I.after hq
    obtain rfl : w = Value.bool t := rz
    exact wpAny_truthy_bool ⟨.bl (!t), H', I', rfl, qz⟩
  | .error _, hq => exact False.elim hq
  | .ok .next, hq => exact False.elim hq
  | .ok .brk, hq => exact False.elim hq
  | .ok .cont, hq => exact False.elim hq
end
theorem hu65 {A : Around} {k : Nat} (hr : Room k A) : A.units + 65 < cLine := by
  have := hr.un
  omega
/-! ### heaps -/
theorem same_upd {H : Hp} {p : Addr} {o : HO} (h : H p = none) : Same H (upd H p o) := fun b x e => by
  rw [upd_ne (ne_of_none e h)]
  exact e
theorem Same.tup {K : PySem.W.Frag} {H H' : Hp} {a : Addr} {xs : List V} (e : Same H H') (h : SqT K H a xs) : SqT K H' a xs := by
  rcases h with (h | ⟨o, h⟩) | h
  · exact .inl (.inl (e _ _ h))
  · exact .inl (.inr ⟨o, e _ _ h⟩)
  · exact .inr h
theorem ixN_nat {n j : Nat} (hj : j < n) : ixN n (j : Int) = some j := by
  unfold ixN
  rw [if_pos (by omega), if_pos (by omega), Int.toNat_natCast]
theorem iteD {c A B : Prop} [Decidable c] (hc : c) (h : A) : if decide c = true then A else B := by
  rw [decide_eq_true hc]
  exact iteT h
theorem iteND {c A B : Prop} [Decidable c] (hc : ¬ c) (h : B) : if decide c = true then A else B := by
  rw [decide_eq_false hc]
  exact iteF h
theorem iteB {b : Bool} {A B : Prop} (hb : b = true) (h : A) : if b = true then A else B := by
  rw [hb]
  exact iteT h
theorem iteNB {b : Bool} {A B : Prop} (hb : b = false) (h : B) : if b = true then A else B := by
  rw [hb]
  exact iteF h
/-! ### walks: a text in a comprehension, enumerate -/
theorem lc_str {x : Str} {g : TG} {tt : TT} {te : TE} {vs : List Nat} {σ : L2.St} {H1 : Hp} {D : Addr} {Qd : Hp → Prop} (Pv : Nat → Hp → Prop) (h0 : Pv 0 (upd H1 D (.lst [])))
    (hs : ∀ i c H, x.cps[i]? = some c → Pv i H → g (.str ⟨#[c]⟩) (wipe σ vs) H fun σ2 H2 => wipe σ2 vs = wipe σ vs ∧ tt σ2 H2 fun b H3 =>
      if b = true then te σ2 H3 fun y H4 => ∃ acc, H4 D = some (.lst acc) ∧ acc.length < sizeLine ∧ Pv (i + 1) (upd H4 D (.lst (acc ++ [y]))) else Pv (i + 1) H3) (hd : ∀ H, Pv x.cps.size H → Qd H) :
    ∃ W : Nat → Nat → Hp → Prop, (∃ m, W 0 m (upd H1 D (.lst []))) ∧ ∀ i m H, W i m H →
      ((Its x).stop i H ∧ Qd H) ∨ ((Its x).go i H ∧ ∃ Nx : Hp → Prop, (∀ H', Nx H' → ∃ m', m' < m ∧ W (i + 1) m' H') ∧ ∀ v H', (Its x).yld i H v H' → g v (wipe σ vs) H' fun σ2 H2 => wipe σ2 vs = wipe σ vs ∧ tt σ2 H2 fun b H3 =>
        if b = true then te σ2 H3 fun y H4 => ∃ acc, H4 D = some (.lst acc) ∧ acc.length < sizeLine ∧ Nx (upd H4 D (.lst (acc ++ [y]))) else Nx H3) := by
  refine ⟨fun i m H => m = x.cps.size - i ∧ i ≤ x.cps.size ∧ Pv i H, ⟨_, rfl, Nat.zero_le _, h0⟩, ?_⟩
  rintro i m H ⟨rfl, hi, p⟩
  by_cases hlt : i < x.cps.size
  · refine .inr ⟨hlt, Pv (i + 1), fun H' p' => ⟨x.cps.size - (i + 1), by omega, rfl, hlt, p'⟩, fun v H' y => ?_⟩
    obtain ⟨e, c, hc, e2⟩ := y
    subst e e2
    exact hs i c _ hc p
  · have e : i = x.cps.size := by omega
    subst e
    exact .inl ⟨Nat.le_refl _, hd H p⟩
theorem for_enum {K : PySem.W.Frag} {a : Addr} {xs : List V} {g : TG} {tb : TS} {D : Ends} {σ : L2.St} {H : Hp} (Pv : Nat → L2.St → Hp → Prop) (h0 : Pv 0 σ H) (hl : ∀ i σ H, i ≤ xs.length → Pv i σ H → SqL K H a xs)
    (hs : ∀ i x σ H T, xs[i]? = some x → Pv i σ H → H T = none → g (.ref T) σ (upd H T (.tup [.int (i : Nat), x])) fun σ2 H2 => tb { D with nx := Pv (i + 1), ct := Pv (i + 1), bk := D.nx } σ2 H2) (hd : ∀ σ H, Pv xs.length σ H → D.nx σ H) :
    ∃ W : Nat → Nat → L2.St → Hp → Prop, (∃ m, W 0 m σ H) ∧ ∀ i m σ H, W i m σ H →
      ((Ite K a).stop i H ∧ D.nx σ H) ∨ ((Ite K a).go i H ∧ ∃ N : L2.St → Hp → Prop, (∀ σ' H', N σ' H' → ∃ m', m' < m ∧ W (i + 1) m' σ' H') ∧ ∀ x H', (Ite K a).yld i H x H' → g x σ H' fun σ2 H2 => tb { D with nx := N, ct := N, bk := D.nx } σ2 H2) := by
  refine ⟨fun i m σ H => m = xs.length - i ∧ i ≤ xs.length ∧ Pv i σ H, ⟨_, rfl, Nat.zero_le _, h0⟩, ?_⟩
  rintro i m σ H ⟨rfl, hi, p⟩
  have q := hl i σ H hi p
  by_cases hlt : i < xs.length
  · refine .inr ⟨⟨xs, xs[i], q, List.getElem?_eq_getElem hlt⟩, Pv (i + 1), fun σ' H' p' => ⟨xs.length - (i + 1), by omega, rfl, hlt, p'⟩, fun v H' y => ?_⟩
    obtain ⟨T, x, e1, hT, e2, hx⟩ := y
    subst e1 e2
    exact hs i x σ H T (hx xs q) p hT
  · have e : i = xs.length := by omega
    subst e
    exact .inl ⟨⟨xs, q, Nat.le_refl _⟩, hd σ H p⟩
/-! ### texts -/
def Low (z : Str) : Prop := ∀ c ∈ z.cps.toList, 97 ≤ c ∧ c ≤ 122
structure Nm (z : Str) : Prop where
  pos : 1 ≤ z.length
  few : z.length ≤ 8
  low : Low z
theorem len_l (z : Str) : z.length = z.cps.toList.length := by simp [Str.length]
theorem inV_str (z : Str) : ∀ ss : List Str, inV (.str z) (ss.map V.str) = decide (z ∈ ss)
  | [] => rfl
  | a :: r => by
    have ih := inV_str z r
    unfold inV at ih ⊢
    rw [List.map_cons, List.any_cons, ih]
    show ((a == z) || decide (z ∈ r)) = decide (z ∈ a :: r)
    by_cases h : a = z
    · subst h
      simp
    · have h2 : (a == z) = false := beq_eq_false_iff_ne.mpr h
      rw [h2, Bool.false_or]
      by_cases h3 : z ∈ r
      · rw [decide_eq_true h3, decide_eq_true (List.mem_cons_of_mem _ h3)]
      · rw [decide_eq_false h3, decide_eq_false (fun m => by rcases List.mem_cons.mp m with e | e; exact h e.symm; exact h3 e)]
theorem flat_strs : ∀ ss : List Str, (ss.map V.str).all flatV = true
  | [] => rfl
  | _ :: r => by
    rw [List.map_cons, List.all_cons, flat_strs r]
    rfl
theorem cut_take (xs : List V) (i : Nat) : cutV xs none (some (i : Int)) = xs.take i := by
  unfold cutV
  rw [HT.sIx_none, show HT.sIx xs.length xs.length (some (i : Int)) = min i xs.length from HT.sIx_nat _ _ i, List.drop_zero, Nat.sub_zero]
  by_cases h : i ≤ xs.length
  · rw [Nat.min_eq_left h]
  · rw [Nat.min_eq_right (by omega), List.take_of_length_le (Nat.le_refl _), List.take_of_length_le (by omega)]
theorem cut_drop (xs : List V) (i : Nat) : cutV xs (some (i : Int)) none = xs.drop i := by
  unfold cutV
  rw [HT.sIx_none, show HT.sIx xs.length 0 (some (i : Int)) = min i xs.length from HT.sIx_nat _ _ i]
  by_cases h : i ≤ xs.length
  · rw [Nat.min_eq_left h]
    exact List.take_of_length_le (by rw [List.length_drop]; exact Nat.le_refl _)
  · rw [Nat.min_eq_right (by omega), Nat.sub_self, List.take_zero, List.drop_eq_nil_of_le (by omega)]
def six : List Str := ["before", "upto", "same", "apart", "far", "next"]
def two : List Str := ["first", "last"]
/-- a tuple that is a rule of these tasks -/
def RuleOk (ts : List Str) (l : List Str) : Prop :=
  (∃ k x, k ∈ two ∧ x ∈ ts ∧ l = [k, x]) ∨ ∃ k x y, k ∈ six ∧ x ∈ ts ∧ y ∈ ts ∧ x ≠ y ∧ l = [k, x, y]
structure TasksOk (ts : List Str) : Prop where
  ne : ts ≠ []
  nm : ∀ z ∈ ts, Nm z
  nd : ts.Nodup
  few : ts.length ≤ 100
def topS (i : Nat) : Stmt := PySem.Challenge.pw_plandays_k11_rules_in_a_book.main.body.getD i (.Pass ⟨0, 0, 0, 0⟩)
abbrev s_is_name : Stmt := topS 15
theorem sc_is_name : FnScope ["text", "sign"] ["text"] (defScope s_is_name) := ⟨rfl, rfl, rfl, by decide +kernel, rfl, by decide +kernel, by decide +kernel⟩
abbrev s_check_tasks : Stmt := topS 16
theorem sc_check_tasks : FnScope ["tasks", "seen", "name"] ["tasks"] (defScope s_check_tasks) := ⟨rfl, rfl, rfl, by decide +kernel, rfl, by decide +kernel, by decide +kernel⟩
abbrev s_check_rule : Stmt := topS 17
theorem sc_check_rule : FnScope ["rule", "tasks", "name"] ["rule", "tasks"] (defScope s_check_rule) := ⟨rfl, rfl, rfl, by decide +kernel, rfl, by decide +kernel, by decide +kernel⟩
abbrev s_turned : Stmt := topS 18
theorem sc_turned : FnScope ["rule"] ["rule"] (defScope s_turned) := ⟨rfl, rfl, rfl, by decide +kernel, rfl, by decide +kernel, by decide +kernel⟩
abbrev s_Book_init : Stmt := inClass (topS 19) 0
theorem sc_Book_init : FnScope ["self", "tasks", "rules", "rule"] ["self", "tasks", "rules"] (defScope s_Book_init) := ⟨rfl, rfl, rfl, by decide +kernel, rfl, by decide +kernel, by decide +kernel⟩
abbrev s_Book_tasks : Stmt := inClass (topS 19) 1
theorem sc_Book_tasks : FnScope ["self"] ["self"] (defScope s_Book_tasks) := ⟨rfl, rfl, rfl, by decide +kernel, rfl, by decide +kernel, by decide +kernel⟩
abbrev s_Book_rules : Stmt := inClass (topS 19) 2
theorem sc_Book_rules : FnScope ["self"] ["self"] (defScope s_Book_rules) := ⟨rfl, rfl, rfl, by decide +kernel, rfl, by decide +kernel, by decide +kernel⟩
abbrev s_Book_with_rules : Stmt := inClass (topS 19) 4
theorem sc_Book_with_rules : FnScope ["self", "rules"] ["self", "rules"] (defScope s_Book_with_rules) := ⟨rfl, rfl, rfl, by decide +kernel, rfl, by decide +kernel, by decide +kernel⟩
abbrev s_Book_without : Stmt := inClass (topS 19) 5
theorem sc_Book_without : FnScope ["self", "index"] ["self", "index"] (defScope s_Book_without) := ⟨rfl, rfl, rfl, by decide +kernel, rfl, by decide +kernel, by decide +kernel⟩
abbrev s_Book_turned : Stmt := inClass (topS 19) 8
theorem sc_Book_turned : FnScope ["self", "rule"] ["self"] (defScope s_Book_turned) := ⟨rfl, rfl, rfl, by decide +kernel, rfl, by decide +kernel, by decide +kernel⟩
abbrev s_Book_and : Stmt := inClass (topS 19) 10
theorem sc_Book_and : FnScope ["self", "other", "more", "name"] ["self", "other"] (defScope s_Book_and) := ⟨rfl, rfl, rfl, by decide +kernel, rfl, by decide +kernel, by decide +kernel⟩
abbrev s_Book_contains : Stmt := inClass (topS 19) 11
theorem sc_Book_contains : FnScope ["self", "rule"] ["self", "rule"] (defScope s_Book_contains) := ⟨rfl, rfl, rfl, by decide +kernel, rfl, by decide +kernel, by decide +kernel⟩
abbrev s_Book_len : Stmt := inClass (topS 19) 12
theorem sc_Book_len : FnScope ["self"] ["self"] (defScope s_Book_len) := ⟨rfl, rfl, rfl, by decide +kernel, rfl, by decide +kernel, by decide +kernel⟩
abbrev s_law_deck : Stmt := topS 21
theorem sc_law_deck : FnScope ["script", "mixed", "cell", "great"] ["script"] (defScope s_law_deck) := ⟨rfl, rfl, rfl, by decide +kernel, rfl, by decide +kernel, by decide +kernel⟩
abbrev s_law_draw : Stmt := topS 22
theorem sc_law_draw : FnScope ["deck", "many", "one"] ["deck", "many"] (defScope s_law_draw) := ⟨rfl, rfl, rfl, by decide +kernel, rfl, by decide +kernel, by decide +kernel⟩
abbrev s_law_names : Stmt := topS 23
theorem sc_law_names : FnScope ["deck", "many", "letters", "words", "way", "stem", "found", "k", "at", "name", "m", "one"] ["deck", "many"] (defScope s_law_names) := ⟨rfl, rfl, rfl, by decide +kernel, rfl, by decide +kernel, by decide +kernel⟩
abbrev s_law_rule : Stmt := topS 24
theorem sc_law_rule : FnScope ["deck", "task_list", "kinds", "kind", "one"] ["deck", "task_list"] (defScope s_law_rule) := ⟨rfl, rfl, rfl, by decide +kernel, rfl, by decide +kernel, by decide +kernel⟩
abbrev s_law_data : Stmt := topS 25
theorem sc_law_data : FnScope ["deck", "most_tasks", "most_rules", "task_list", "rule_list", "k"] ["deck", "most_tasks", "most_rules"] (defScope s_law_data) := ⟨rfl, rfl, rfl, by decide +kernel, rfl, by decide +kernel, by decide +kernel⟩
abbrev s_law_strange : Stmt := topS 26
theorem sc_law_strange : FnScope ["deck", "task_list", "signs", "way", "word", "at", "k"] ["deck", "task_list"] (defScope s_law_strange) := ⟨rfl, rfl, rfl, by decide +kernel, rfl, by decide +kernel, by decide +kernel⟩
abbrev s_law_bad_rule : Stmt := topS 27
theorem sc_law_bad_rule : FnScope ["deck", "task_list", "rule", "way", "kind", "k"] ["deck", "task_list"] (defScope s_law_bad_rule) := ⟨rfl, rfl, rfl, by decide +kernel, rfl, by decide +kernel, by decide +kernel⟩
abbrev s_law_order : Stmt := topS 28
theorem sc_law_order : FnScope ["deck", "many", "left", "k"] ["deck", "many"] (defScope s_law_order) := ⟨rfl, rfl, rfl, by decide +kernel, rfl, by decide +kernel, by decide +kernel⟩
abbrev s_law_backward : Stmt := topS 29
theorem sc_law_backward : FnScope ["rule"] ["rule"] (defScope s_law_backward) := ⟨rfl, rfl, rfl, by decide +kernel, rfl, by decide +kernel, by decide +kernel⟩
abbrev s_law_near : Stmt := topS 30
theorem sc_law_near : FnScope ["deck", "task_list", "rule_list", "way", "rule", "at"] ["deck", "task_list", "rule_list"] (defScope s_law_near) := ⟨rfl, rfl, rfl, by decide +kernel, rfl, by decide +kernel, by decide +kernel⟩
abbrev s_law_asked : Stmt := topS 31
theorem sc_law_asked : FnScope ["book", "rule_list", "rule", "found"] ["book", "rule_list", "rule"] (defScope s_law_asked) := ⟨rfl, rfl, rfl, by decide +kernel, rfl, by decide +kernel, by decide +kernel⟩
abbrev s_law : Stmt := topS 32
theorem sc_law : FnScope ["script", "deck", "k", "task_list", "rule_list", "book", "more", "rows", "at", "asked", "one", "own", "m", "rule"] ["script"] (defScope s_law) := ⟨rfl, rfl, rfl, by decide +kernel, rfl, by decide +kernel, by decide +kernel⟩
/-- what the top has written, as the walks ask it -/
structure Tx (K : PySem.W.Frag) (w : World) (mg : Str → Option Value) where
  C_Book : Addr
  cl_Book : Cls K C_Book
  mg_Book : mg "Book" = some (.ref C_Book)
  n_Book_tasks : NoAttr K C_Book "_tasks"
  n_Book_rules : NoAttr K C_Book "_rules"
  d__TASKS_IN : Addr
  e__TASKS_IN : Array DictEntry
  i__TASKS_IN : Nat
  g__TASKS_IN : mg "_TASKS_IN" = some (.ref d__TASKS_IN)
  kd__TASKS_IN : KDict K w d__TASKS_IN e__TASKS_IN i__TASKS_IN
  k__TASKS_IN_before : ∃ t, PySem.W.nsIn K d__TASKS_IN "before" = some (some (.int 2 t))
  k__TASKS_IN_upto : ∃ t, PySem.W.nsIn K d__TASKS_IN "upto" = some (some (.int 2 t))
  k__TASKS_IN_same : ∃ t, PySem.W.nsIn K d__TASKS_IN "same" = some (some (.int 2 t))
  k__TASKS_IN_apart : ∃ t, PySem.W.nsIn K d__TASKS_IN "apart" = some (some (.int 2 t))
  k__TASKS_IN_far : ∃ t, PySem.W.nsIn K d__TASKS_IN "far" = some (some (.int 2 t))
  k__TASKS_IN_next : ∃ t, PySem.W.nsIn K d__TASKS_IN "next" = some (some (.int 2 t))
  k__TASKS_IN_first : ∃ t, PySem.W.nsIn K d__TASKS_IN "first" = some (some (.int 1 t))
  k__TASKS_IN_last : ∃ t, PySem.W.nsIn K d__TASKS_IN "last" = some (some (.int 1 t))
  d__OTHER_END : Addr
  e__OTHER_END : Array DictEntry
  i__OTHER_END : Nat
  g__OTHER_END : mg "_OTHER_END" = some (.ref d__OTHER_END)
  kd__OTHER_END : KDict K w d__OTHER_END e__OTHER_END i__OTHER_END
  k__OTHER_END_first : ∃ t, PySem.W.nsIn K d__OTHER_END "first" = some (some (.str "last" t))
  k__OTHER_END_last : ∃ t, PySem.W.nsIn K d__OTHER_END "last" = some (some (.str "first" t))
  k__OTHER_END_same : PySem.W.nsIn K d__OTHER_END "same" = some none
  k__OTHER_END_apart : PySem.W.nsIn K d__OTHER_END "apart" = some none
  d__DIRECTED : Addr
  g__DIRECTED : mg "_DIRECTED" = some (.ref d__DIRECTED)
  sq__DIRECTED : ∀ H : Hp, SqT K H d__DIRECTED ((["before", "upto", "far", "next"] : List Str).map V.str)
  t__LONGEST_NAME : Tok
  v__LONGEST_NAME : mg "_LONGEST_NAME" = some (.int 8 t__LONGEST_NAME)
  f_is_name : Addr
  d_is_name : FuncData
  F_is_name : Fun K "_is_name" "_is_name" s_is_name f_is_name d_is_name
  b_is_name : Binds K d_is_name ["text"] []
  g_is_name : mg "_is_name" = some (.ref f_is_name)
  f_check_tasks : Addr
  d_check_tasks : FuncData
  F_check_tasks : Fun K "_check_tasks" "_check_tasks" s_check_tasks f_check_tasks d_check_tasks
  b_check_tasks : Binds K d_check_tasks ["tasks"] []
  g_check_tasks : mg "_check_tasks" = some (.ref f_check_tasks)
  f_check_rule : Addr
  d_check_rule : FuncData
  F_check_rule : Fun K "_check_rule" "_check_rule" s_check_rule f_check_rule d_check_rule
  b_check_rule : Binds K d_check_rule ["rule", "tasks"] []
  g_check_rule : mg "_check_rule" = some (.ref f_check_rule)
  f_turned : Addr
  d_turned : FuncData
  F_turned : Fun K "_turned" "_turned" s_turned f_turned d_turned
  b_turned : Binds K d_turned ["rule"] []
  g_turned : mg "_turned" = some (.ref f_turned)
  f_Book_init : Addr
  d_Book_init : FuncData
  F_Book_init : Fun K "__init__" "Book.__init__" s_Book_init f_Book_init d_Book_init
  b_Book_init : Binds K d_Book_init ["self", "tasks", "rules"] []
  mk_Book : Mk K C_Book f_Book_init
  f_Book_tasks : Addr
  d_Book_tasks : FuncData
  F_Book_tasks : Fun K "tasks" "Book.tasks" s_Book_tasks f_Book_tasks d_Book_tasks
  b_Book_tasks : Binds K d_Book_tasks ["self"] []
  p_Book_tasks : Addr
  pr_Book_tasks : PropOf K C_Book "tasks" p_Book_tasks f_Book_tasks
  f_Book_rules : Addr
  d_Book_rules : FuncData
  F_Book_rules : Fun K "rules" "Book.rules" s_Book_rules f_Book_rules d_Book_rules
  b_Book_rules : Binds K d_Book_rules ["self"] []
  p_Book_rules : Addr
  pr_Book_rules : PropOf K C_Book "rules" p_Book_rules f_Book_rules
  f_Book_with_rules : Addr
  d_Book_with_rules : FuncData
  F_Book_with_rules : Fun K "with_rules" "Book.with_rules" s_Book_with_rules f_Book_with_rules d_Book_with_rules
  b_Book_with_rules : Binds K d_Book_with_rules ["self", "rules"] []
  me_Book_with_rules : Meth K C_Book "with_rules" f_Book_with_rules
  f_Book_without : Addr
  d_Book_without : FuncData
  F_Book_without : Fun K "without" "Book.without" s_Book_without f_Book_without d_Book_without
  b_Book_without : Binds K d_Book_without ["self", "index"] []
  me_Book_without : Meth K C_Book "without" f_Book_without
  f_Book_turned : Addr
  d_Book_turned : FuncData
  F_Book_turned : Fun K "turned" "Book.turned" s_Book_turned f_Book_turned d_Book_turned
  b_Book_turned : Binds K d_Book_turned ["self"] []
  me_Book_turned : Meth K C_Book "turned" f_Book_turned
  f_Book_and : Addr
  d_Book_and : FuncData
  F_Book_and : Fun K "__and__" "Book.__and__" s_Book_and f_Book_and d_Book_and
  b_Book_and : Binds K d_Book_and ["self", "other"] []
  me_Book_and : Meth K C_Book "__and__" f_Book_and
  f_Book_contains : Addr
  d_Book_contains : FuncData
  F_Book_contains : Fun K "__contains__" "Book.__contains__" s_Book_contains f_Book_contains d_Book_contains
  b_Book_contains : Binds K d_Book_contains ["self", "rule"] []
  me_Book_contains : Meth K C_Book "__contains__" f_Book_contains
  f_Book_len : Addr
  d_Book_len : FuncData
  F_Book_len : Fun K "__len__" "Book.__len__" s_Book_len f_Book_len d_Book_len
  b_Book_len : Binds K d_Book_len ["self"] []
  me_Book_len : Meth K C_Book "__len__" f_Book_len
  f_law_deck : Addr
  d_law_deck : FuncData
  F_law_deck : Fun K "_law_deck" "_law_deck" s_law_deck f_law_deck d_law_deck
  b_law_deck : Binds K d_law_deck ["script"] []
  g_law_deck : mg "_law_deck" = some (.ref f_law_deck)
  f_law_draw : Addr
  d_law_draw : FuncData
  F_law_draw : Fun K "_law_draw" "_law_draw" s_law_draw f_law_draw d_law_draw
  b_law_draw : Binds K d_law_draw ["deck", "many"] []
  g_law_draw : mg "_law_draw" = some (.ref f_law_draw)
  f_law_names : Addr
  d_law_names : FuncData
  F_law_names : Fun K "_law_names" "_law_names" s_law_names f_law_names d_law_names
  b_law_names : Binds K d_law_names ["deck", "many"] []
  g_law_names : mg "_law_names" = some (.ref f_law_names)
  f_law_rule : Addr
  d_law_rule : FuncData
  F_law_rule : Fun K "_law_rule" "_law_rule" s_law_rule f_law_rule d_law_rule
  b_law_rule : Binds K d_law_rule ["deck", "task_list"] []
  g_law_rule : mg "_law_rule" = some (.ref f_law_rule)
  f_law_data : Addr
  d_law_data : FuncData
  F_law_data : Fun K "_law_data" "_law_data" s_law_data f_law_data d_law_data
  b_law_data : Binds K d_law_data ["deck", "most_tasks", "most_rules"] []
  g_law_data : mg "_law_data" = some (.ref f_law_data)
  f_law_strange : Addr
  d_law_strange : FuncData
  F_law_strange : Fun K "_law_strange" "_law_strange" s_law_strange f_law_strange d_law_strange
  b_law_strange : Binds K d_law_strange ["deck", "task_list"] []
  g_law_strange : mg "_law_strange" = some (.ref f_law_strange)
  f_law_bad_rule : Addr
  d_law_bad_rule : FuncData
  F_law_bad_rule : Fun K "_law_bad_rule" "_law_bad_rule" s_law_bad_rule f_law_bad_rule d_law_bad_rule
  b_law_bad_rule : Binds K d_law_bad_rule ["deck", "task_list"] []
  g_law_bad_rule : mg "_law_bad_rule" = some (.ref f_law_bad_rule)
  f_law_order : Addr
  d_law_order : FuncData
  F_law_order : Fun K "_law_order" "_law_order" s_law_order f_law_order d_law_order
  b_law_order : Binds K d_law_order ["deck", "many"] []
  g_law_order : mg "_law_order" = some (.ref f_law_order)
  f_law_backward : Addr
  d_law_backward : FuncData
  F_law_backward : Fun K "_law_backward" "_law_backward" s_law_backward f_law_backward d_law_backward
  b_law_backward : Binds K d_law_backward ["rule"] []
  g_law_backward : mg "_law_backward" = some (.ref f_law_backward)
  f_law_near : Addr
  d_law_near : FuncData
  F_law_near : Fun K "_law_near" "_law_near" s_law_near f_law_near d_law_near
  b_law_near : Binds K d_law_near ["deck", "task_list", "rule_list"] []
  g_law_near : mg "_law_near" = some (.ref f_law_near)
  f_law_asked : Addr
  d_law_asked : FuncData
  F_law_asked : Fun K "_law_asked" "_law_asked" s_law_asked f_law_asked d_law_asked
  b_law_asked : Binds K d_law_asked ["book", "rule_list", "rule"] []
  g_law_asked : mg "_law_asked" = some (.ref f_law_asked)
  f_law : Addr
  d_law : FuncData
  F_law : Fun K "law" "law" s_law f_law d_law
  b_law : Binds K d_law ["script"] []
  g_law : mg "law" = some (.ref f_law)
  m_all : mg "all" = none
  m_bool : mg "bool" = none
  m_int : mg "int" = none
  m_isinstance : mg "isinstance" = none
  m_len : mg "len" = none
  m_list : mg "list" = none
  m_range : mg "range" = none
  m_tuple : mg "tuple" = none
  xa_Book : PySem.W.findIn K (.ref C_Book) "__class__" = some (some (.builtin "object.__class__"))
  xn_Book : PySem.W.specialIn K (.builtin "object.__class__") "__get__" = some (some (.builtin "getset_descriptor.__get__"))
  xt_Book : PySem.W.takesIn K (.builtin "object.__class__") = some true
  xm_Book : PySem.W.mroIn K C_Book (.type "object") = some true
  sf_Book : PySem.W.selfFirst K C_Book = true
section
variable {P : Program} {w : World} {K : PySem.W.Frag} {mg : Str → Option Value} {base : Heap}
/-! ### the program's defs -/
def sp_isname : Sp := fun vs H Q _ => ∃ z, vs = [.str z] ∧ Nm z ∧ ∀ H', Same H H' → Q (.bl true) H'
theorem le_a (c : Nat) (h : 97 ≤ c) : (!decide ((#[c] : Array Nat).toList < (Str.ofString "a").cps.toList)) = true := by
  have : (Str.ofString "a").cps.toList = [97] := by decide +kernel
  rw [this]
  have : ¬ [c] < [97] := by
    intro z
    rcases List.cons_lt_cons_iff.mp z with h1 | ⟨_, h2⟩
    · omega
    · exact absurd h2 (List.not_lt_nil _)
  simpa using this
theorem ge_z (c : Nat) (h : c ≤ 122) : (!decide ((Str.ofString "z").cps.toList < (#[c] : Array Nat).toList)) = true := by
  have : (Str.ofString "z").cps.toList = [122] := by decide +kernel
  rw [this]
  have : ¬ [122] < [c] := by
    intro z
    rcases List.cons_lt_cons_iff.mp z with h1 | ⟨_, h2⟩
    · omega
    · exact absurd h2 (List.not_lt_nil _)
  simpa using this
theorem all_true (n : Nat) : (List.replicate n true).all id = true := by
  induction n with
  | zero => rfl
  | succ n ih => rw [List.replicate_succ, List.all_cons, ih]; rfl
theorem ok_is_name (T : Tx K w mg) : FnOk P w K mg base CX0 1 T.f_is_name T.d_is_name ["text"] sp_isname := by
  refine T.F_is_name.ok sc_is_name (fun vs H Q E h => ?_) (fun cdv A outer s H vs Q E hr h => ?_)
  · obtain ⟨z, rfl, _⟩ := h
    rfl
  · obtain ⟨z, rfl, hn, k⟩ := h
    refine ⟨_,
    (pss_one
      (ps_ret (pe_and (pe_chain op_le op_le pe_int (pe_callB call_len_str (by rfl) T.m_len (by decide +kernel) (pa_cons (pv 0) pa_nil)) (pe_glob (v := .int 8) (by rfl) T.v__LONGEST_NAME ⟨_, rfl⟩)) (pe_one (pe_callB (cr_all rfl) (by rfl) T.m_all (by decide +kernel) (pa_cons (pe_lc (own := [("sign", 1)]) (g := gName 1) rfl sc_is_name.nd (pi_str (pv 0)) (blkOk_by (N := ["text", "sign"]) (sc := defScope s_is_name) (own := [("sign", 1)]) (by decide +kernel)) (fun _ _ _ _ _ => (pg_name (i := 1) sc_is_name.nd rfl (.inl rfl))) (fun _ _ _ _ _ => pts_nil) (fun _ _ _ _ _ => (pe_chain op_le_str op_le_str pe_str (pv 1) pe_str))) pa_nil)))))), ?_⟩
    have few := hn.few
    have pos := hn.pos
    have line : z.length ≤ sizeLine := Nat.le_of_lt (small1000 (by omega))
    refine ⟨_, rfl, _, rfl, line, _, _, rfl, rfl, _, rfl, iteD (by omega) ⟨_, _, rfl, rfl, _, rfl, iteD (by omega) ?_⟩⟩
    refine ⟨_, rfl, z, rfl, fun D hD => ?_⟩
    refine lc_str (fun i H' => i ≤ z.length ∧ H' D = some (.lst ((List.replicate i true).map V.bl)) ∧ Same H H') ?_ ?_ ?_
    · exact ⟨Nat.zero_le _, upd_same, same_upd hD⟩
    · rintro i c H1 hc ⟨hi, eD, sm⟩
      have hm : c ∈ z.cps.toList := by
        have : z.cps.toList[i]? = some c := by simpa using hc
        exact List.mem_of_getElem? this
      have hil : i < z.length := by
        have : i < z.cps.size := by
          rcases Nat.lt_or_ge i z.cps.size with h | h
          · exact h
          · rw [Array.getElem?_eq_none h] at hc; cases hc
        exact this
      obtain ⟨l1, l2⟩ := hn.low c hm
      refine ⟨rfl, _, rfl, _, _, rfl, rfl, _, rfl, iteB (le_a c l1) ⟨_, _, rfl, rfl, (List.replicate i true).map V.bl, eD, ?_, hil, ?_, fun b o e => ?_⟩⟩
      · rw [List.length_map, List.length_replicate]; exact small1000 (by omega)
      · rw [upd_same, ge_z c l2, List.replicate_succ', List.map_append]; rfl
      · rw [upd_ne (ne_of_none e hD)]; exact sm b o e
    · rintro H1 ⟨_, eD, sm⟩
      refine ⟨D, List.replicate z.cps.size true, rfl, .of eD, ?_⟩
      rw [all_true]
      exact k H1 sm
def sp_check_tasks (K : PySem.W.Frag) : Sp := fun vs H Q _ => ∃ t ts, vs = [.ref t] ∧ SqL K H t (ts.map V.str) ∧ TasksOk ts ∧ ∀ H', Same H H' → Q .non H'
theorem not_before {ts : List Str} {i : Nat} {z : Str} (nd : ts.Nodup) (h : ts[i]? = some z) : z ∉ ts.take i := fun m => by
  obtain ⟨j, hj, e⟩ := List.mem_iff_getElem.mp m
  rw [List.length_take] at hj
  rw [List.getElem_take] at e
  obtain ⟨hi, e2⟩ := List.getElem?_eq_some_iff.mp h
  have := (List.getElem_inj nd).mp (e.trans e2.symm)
  omega
theorem seen_new {H H1 : Hp} {d : Addr} {o : HO} (hd : H d = none) (sm : Same H H1) : Same H (upd H1 d o) := fun b x e => by
  rw [upd_ne (ne_of_none e hd)]
  exact sm b x e
theorem ok_check_tasks (T : Tx K w mg) : FnOk P w K mg base CX0 2 T.f_check_tasks T.d_check_tasks ["tasks"] (sp_check_tasks K) := by
  refine T.F_check_tasks.ok sc_check_tasks (fun vs H Q E h => ?_) (fun cdv A outer s H vs Q E hr h => ?_)
  · obtain ⟨t, ts, rfl, _⟩ := h
    rfl
  · obtain ⟨t, ts, rfl, hT, ok, k⟩ := h
    refine ⟨_,
    (pss_cons
      (ps_if (pt_not (pt_truth (pv 0) (by intro _; rfl)))
        (pss_one
          ps_never)
        pss_nil)
    (pss_cons
      (ps_set (i := 1) sc_check_tasks.nd rfl (.inl rfl) pe_dnewK)
    (pss_one
      (ps_for PassesOwn.never rfl (pi_list (pv 0)) (pg_name (i := 2) sc_check_tasks.nd rfl (.inl rfl))
        (pss_cons
          (ps_if (pt_not (pt_val (pe_call (ok_is_name T) hr (by rfl) T.g_is_name T.F_is_name.kp T.b_is_name .nil pass0 (pa_cons (pv 2) pa_nil))))
            (pss_one
              ps_never)
            pss_nil)
        (pss_cons
          (ps_if (pt_cmp (pc_din (hu_of hr) (pv 2) (pv 1)))
            (pss_one
              ps_never)
            pss_nil)
        (pss_one
          (ps_dput (hu_of hr) (pv 1) (pv 2) pe_bl (by rfl))))))))), ?_⟩
    refine ⟨_, rfl, true, .inl ⟨_, hT, ?_⟩, fun d hd => ?_⟩
    · cases ts with
      | nil => exact absurd rfl ok.ne
      | cons a r => rfl
    have sd : Same H (upd H d (.dK [])) := same_upd hd
    refine ⟨_, rfl, t, rfl, ⟨_, sd.seq hT⟩, for_list (xs := ts.map V.str) (fun i σ H' => Same H H' ∧ (∃ kvs : List (Key × V), H' d = some (.dK kvs) ∧ kvs.length ≤ i ∧ ∀ z : Str, (valV kvs (.inr z)).isSome = decide (z ∈ ts.take i)) ∧ ∃ x, σ = [some (.ref t), some (.ref d), x]) ?_ ?_ ?_ ?_⟩
    · exact ⟨sd, ⟨[], upd_same, Nat.le_refl _, fun z => by simp [valV]⟩, none, rfl⟩
    · rintro i σ H' _ ⟨sm, _⟩
      exact sm.seq hT
    · rintro i v σ H1 hi ⟨sm, ⟨kvs, hk, hl, hv⟩, x, rfl⟩
      rw [List.getElem?_map] at hi
      obtain ⟨z, hz, rfl⟩ := Option.map_eq_some_iff.mp hi
      have nz := ok.nm z (List.mem_of_getElem? hz)
      have hit : i < ts.length := (List.getElem?_eq_some_iff.mp hz).1
      have few := ok.few
      refine ⟨_, rfl, z, rfl, nz, fun H2 s2 => ⟨_, rfl, ?_⟩⟩
      have hk2 := s2 _ _ hk
      refine ⟨_, rfl, _, rfl, d, _, rfl, DGet.k (k := .inr z) hk2, _, rfl, iteNB ?_ ?_⟩
      · rw [hv]; exact decide_eq_false (not_before ok.nd hz)
      · refine ⟨_, rfl, _, rfl, d, _, rfl, DPut.k (k := .inr z) hk2 (small1000 (by omega)), seen_new hd (sm.trans s2), ⟨_, upd_same, ?_, fun y => ?_⟩, _, rfl⟩
        · exact Nat.le_trans (length_putK _ _ _) (by omega)
        · rw [valV_put, List.take_add_one, hz]
          by_cases e : y = z
          · subst e
            simp
          · have e2 : ¬ (Sum.inr y : Key) = .inr z := fun q => e (Sum.inr.inj q)
            rw [if_neg e2, hv y]
            simp [e]
    · rintro σ H' ⟨sm, _⟩
      exact k H' sm
def sp_check_rule (K : PySem.W.Frag) : Sp := fun vs H Q _ => ∃ a t l ts, vs = [.ref a, .ref t] ∧ SqT K H a (l.map V.str) ∧ SqL K H t (ts.map V.str) ∧ RuleOk ts l ∧ ∀ H', Same H H' → Q .non H'
theorem kind_in {T : Tx K w mg} {k : Str} {n : Int} (h : (k ∈ two ∧ n = 1) ∨ (k ∈ six ∧ n = 2)) : ∃ t, PySem.W.nsIn K T.d__TASKS_IN k = some (some (.int n t)) := by
  rcases h with ⟨h, rfl⟩ | ⟨h, rfl⟩
  · simp only [two, List.mem_cons, List.not_mem_nil, or_false] at h
    rcases h with rfl | rfl
    · exact T.k__TASKS_IN_first
    · exact T.k__TASKS_IN_last
  · simp only [six, List.mem_cons, List.not_mem_nil, or_false] at h
    rcases h with rfl | rfl | rfl | rfl | rfl | rfl
    · exact T.k__TASKS_IN_before
    · exact T.k__TASKS_IN_upto
    · exact T.k__TASKS_IN_same
    · exact T.k__TASKS_IN_apart
    · exact T.k__TASKS_IN_far
    · exact T.k__TASKS_IN_next
theorem ok_check_rule (T : Tx K w mg) : FnOk P w K mg base CX0 1 T.f_check_rule T.d_check_rule ["rule", "tasks"] (sp_check_rule K) := by
  refine T.F_check_rule.ok sc_check_rule (fun vs H Q E h => ?_) (fun cdv A outer s H vs Q E hr h => ?_)
  · obtain ⟨a, t, l, ts, rfl, _⟩ := h
    rfl
  · obtain ⟨a, t, l, ts, rfl, hA, hT, ok, k⟩ := h
    have hl : ∃ kd r, l = kd :: r ∧ ((kd ∈ two ∧ r.length = 1) ∨ (kd ∈ six ∧ r.length = 2)) ∧ (∀ z ∈ r, z ∈ ts) ∧ (∀ x y, r = [x, y] → x ≠ y) := by
      rcases ok with ⟨kd, x, h1, h2, rfl⟩ | ⟨kd, x, y, h1, h2, h3, h4, rfl⟩
      · exact ⟨kd, [x], rfl, .inl ⟨h1, rfl⟩, fun z hz => by rw [List.mem_singleton.mp hz]; exact h2, fun x y e => by simp at e⟩
      · exact ⟨kd, [x, y], rfl, .inr ⟨h1, rfl⟩, fun z hz => by
          rcases List.mem_cons.mp hz with e | e
          · rw [e]; exact h2
          · rw [List.mem_singleton.mp e]; exact h3, fun u v e => by
          injection e with e1 e2
          injection e2 with e2 _
          rw [← e1, ← e2]; exact h4⟩
    obtain ⟨kd, r, rfl, hk, hin, hne⟩ := hl
    obtain ⟨tk, hd⟩ := kind_in (T := T) (k := kd) (n := r.length) (by rcases hk with ⟨h, e⟩ | ⟨h, e⟩; exact .inl ⟨h, by omega⟩; exact .inr ⟨h, by omega⟩)
    refine ⟨_,
    (pss_cons
      (ps_if (PW.pt (pw_or (pt_cmpR (op_notIn_kd T.kd__TASKS_IN) (pe_ix ix_tup (pv 0) pe_int (fun _ _ => rfl)) (pe_glob (v := .ref T.d__TASKS_IN) (by rfl) T.g__TASKS_IN rfl) (by rfl)) (pw_or1 (pt_cmpR op_ne (pe_callB call_len_seq (by rfl) T.m_len (by decide +kernel) (pa_cons (pv 0) pa_nil)) (pe_op op_add pe_int (pe_ix (ix_kd T.kd__TASKS_IN) (pe_glob (v := .ref T.d__TASKS_IN) (by rfl) T.g__TASKS_IN rfl) (pe_ix ix_tup (pv 0) pe_int (fun _ _ => rfl)) (fun _ _ => rfl))) (nomark _)))))
        (pss_one
          ps_never)
        pss_nil)
    (pss_cons
      (ps_for PassesOwn.never rfl (pi_tup (pe_slice sl_tup (pv 0) (po_some pe_int) po_none)) (pg_name (i := 2) sc_check_rule.nd rfl (.inl rfl))
        (pss_one
          (ps_if (pt_cmpR op_notIn_seq (pv 2) (pv 1) (by rfl))
            (pss_one
              ps_never)
            pss_nil)))
    (pss_one
      (ps_if (PW.pt (pw_and (pt_cmpR op_eq (pe_callB call_len_seq (by rfl) T.m_len (by decide +kernel) (pa_cons (pv 0) pa_nil)) pe_int (nomark _)) (pw_and1 (pt_cmpR op_eq (pe_ix ix_tup (pv 0) pe_int (fun _ _ => rfl)) (pe_ix ix_tup (pv 0) pe_int (fun _ _ => rfl)) (nomark _)))))
        (pss_one
          ps_never)
        pss_nil)))), ?_⟩
    refine ⟨_, rfl, a, _, _, _, rfl, rfl, hA, atI_nat (j := 0) rfl, _, _, rfl, rfl, hd, _, rfl, ?_⟩
    refine ⟨_, rfl, a, _, rfl, .inr hA, _, rfl, a, _, _, _, rfl, rfl, hA, atI_nat (j := 0) rfl, _, _, .int (r.length : Int), rfl, rfl, hd, ⟨_, rfl⟩, _, _, rfl, rfl, rfl, _, rfl, iteNS ?_ ?_⟩
    · show V.int (((kd :: r).map V.str).length : Int) = V.int (1 + (r.length : Int))
      rw [List.length_map, List.length_cons]
      congr 1
      omega
    refine ⟨_, rfl, _, rfl, a, _, rfl, hA, ?_, fun p hp => ⟨_, rfl, ⟨_, .of upd_same⟩, ?_⟩⟩
    · rintro ⟨h1, _⟩
      rw [show HT.sIx ((kd :: r).map V.str).length 0 (some 1) = min 1 ((kd :: r).map V.str).length from HT.sIx_nat _ _ 1, List.length_map, List.length_cons] at h1
      omega
    have ec : cutV ((kd :: r).map V.str) (some 1) none = r.map V.str := cut_drop _ 1
    rw [ec] at *
    refine for_tup (xs := r.map V.str) (fun i σ H' => Same (upd H p (.tup (r.map V.str))) H' ∧ ∃ x2, σ = [some (.ref a), some (.ref t), x2]) ?_ ?_ ?_ ?_
    · exact ⟨Same.refl _, none, rfl⟩
    · rintro i σ H' _ ⟨sm, _⟩
      exact .of (sm _ _ upd_same)
    · rintro i x σ H1 hi ⟨sm, x2, rfl⟩
      rw [List.getElem?_map] at hi
      obtain ⟨z, hz, rfl⟩ := Option.map_eq_some_iff.mp hi
      have s1 := (same_upd (o := .tup (r.map V.str)) hp).trans sm
      refine ⟨_, rfl, _, rfl, t, _, rfl, .inl (s1.seq hT), rfl, flat_strs _, _, rfl, iteNB ?_ ⟨sm, _, rfl⟩⟩
      show (!inV (V.str z) _) = false
      rw [inV_str, decide_eq_true (hin z (List.mem_of_getElem? hz))]
      rfl
    · rintro σ H1 ⟨sm, x2, rfl⟩
      have s1 := (same_upd (o := .tup (r.map V.str)) hp).trans sm
      have hA1 := Same.tup s1 hA
      refine ⟨_, rfl, a, _, rfl, .inr hA1, rfl, _, rfl, ?_⟩
      rcases hk with ⟨_, e⟩ | ⟨_, e⟩
      · refine iteND ?_ (k H1 s1)
        intro z
        have := V.int.inj z
        rw [List.length_map, List.length_cons] at this
        omega
      · match r, e with
        | [x, y], _ =>
          refine iteD rfl ⟨_, rfl, a, _, _, _, rfl, rfl, hA1, atI_nat (j := 1) rfl, _, rfl, a, _, _, _, rfl, rfl, hA1, atI_nat (j := 2) rfl, rfl, _, rfl, iteND ?_ (k H1 s1)⟩
          intro z
          exact hne x y rfl (V.str.inj z)
/-! ### a book in the heap -/
theorem kc : ¬ (("_tasks" : Str) = "_rules") := by decide +kernel
def fl (t r : Addr) : List (Str × V) := putF "_rules" (.ref r) (putF "_tasks" (.ref t) [])
theorem fl_t (t r : Addr) : (fl t r).lookup ("_tasks" : Str) = some (.ref t) := by
  unfold fl
  rw [lookup_putF, if_neg kc, lookup_putF, if_pos rfl]
theorem fl_r (t r : Addr) : (fl t r).lookup ("_rules" : Str) = some (.ref r) := by
  unfold fl
  rw [lookup_putF, if_pos rfl]
def sp_init (K : PySem.W.Frag) (C : Addr) : Sp := fun vs H Q _ => ∃ (x dx t r : Addr) (ts : List Str) (as : List Addr), vs = [.ref x, .ref t, .ref r] ∧ H x = some (.ins C dx []) ∧ SqL K H t (ts.map V.str) ∧ SqL K H r (as.map V.ref) ∧ TasksOk ts ∧
  (∀ a ∈ as, ∃ l : List Str, SqT K H a (l.map V.str) ∧ RuleOk ts l) ∧ ∀ p q H', H p = none → H q = none → H' x = some (.ins C dx (fl p q)) → H' p = some (.lst (ts.map V.str)) → H' q = some (.lst (as.map V.ref)) →
    (∀ b o, H b = some o → b ≠ x → H' b = some o) → Q .non H'
theorem ok_Book_init (T : Tx K w mg) : FnOk P w K mg base CX0 3 T.f_Book_init T.d_Book_init ["self", "tasks", "rules"] (sp_init K T.C_Book) := by
  refine T.F_Book_init.ok sc_Book_init (fun vs H Q E h => ?_) (fun cdv A outer s H vs Q E hr h => ?_)
  · obtain ⟨x, dx, t, r, ts, as, rfl, _⟩ := h
    rfl
  · obtain ⟨x, dx, t, r, ts, as, rfl, hx, hT, hR, ok, rok, k⟩ := h
    refine ⟨_,
    (pss_cons
      (ps_expr (pe_call (ok_check_tasks T) hr (by rfl) T.g_check_tasks T.F_check_tasks.kp T.b_check_tasks .nil pass0 (pa_cons (pv 1) pa_nil)))
    (pss_cons
      (ps_for PassesOwn.never rfl (pi_list (pv 2)) (pg_name (i := 3) sc_Book_init.nd rfl (.inl rfl))
        (pss_one
          (ps_expr (pe_call (ok_check_rule T) (hr.mono (by decide)) (by rfl) T.g_check_rule T.F_check_rule.kp T.b_check_rule .nil pass0 (pa_cons (pv 3) (pa_cons (pv 1) pa_nil))))))
    (pss_cons
      (ps_fld (pv 0) (pe_callTy call_list_of (by rfl) T.m_list (by decide +kernel) (pa_cons (pv 1) pa_nil)) rfl)
    (pss_one
      (ps_fld (pv 0) (pe_callTy call_list_of (by rfl) T.m_list (by decide +kernel) (pa_cons (pv 2) pa_nil)) rfl))))), ?_⟩
    refine ⟨_, rfl, t, ts, rfl, hT, ok, fun H1 s1 => ?_⟩
    refine ⟨_, rfl, r, rfl, ⟨_, s1.seq hR⟩, for_list (xs := as.map V.ref) (fun i σ H' => Same H H' ∧ ∃ x3, σ = [some (.ref x), some (.ref t), some (.ref r), x3]) ⟨s1, none, rfl⟩ (fun i σ H' _ h => h.1.seq hR) ?_ ?_⟩
    · rintro i v σ H2 hi ⟨sm, x3, rfl⟩
      rw [List.getElem?_map] at hi
      obtain ⟨a, ha, rfl⟩ := Option.map_eq_some_iff.mp hi
      obtain ⟨l, hl, lok⟩ := rok a (List.mem_of_getElem? ha)
      exact ⟨_, rfl, _, rfl, a, t, l, ts, rfl, Same.tup sm hl, sm.seq hT, lok, fun H3 s3 => ⟨sm.trans s3, _, rfl⟩⟩
    · rintro σ H2 ⟨sm, x3, rfl⟩
      refine ⟨_, rfl, t, _, rfl, .inl (sm.seq hT), fun p hp => ?_⟩
      have hx2 := sm _ _ hx
      have xp : x ≠ p := ne_of_none hx2 hp
      have s2 : Same H (upd H2 p (.lst (ts.map V.str))) := sm.trans (same_upd hp)
      have hx3 := s2 _ _ hx
      refine ⟨_, rfl, x, T.C_Book, dx, [], rfl, hx3, T.cl_Book, T.n_Book_tasks, (by show 0 < 1000; decide), ?_⟩
      have hR2 : SqL K (upd (upd H2 p (.lst (ts.map V.str))) x (.ins T.C_Book dx (putF "_tasks" (.ref p) []))) r (as.map V.ref) := by
        rcases s2.seq hR with (h | ⟨o, h⟩) | h
        · exact .inl (.inl (by rw [upd_ne (ne_of h hx3 (by intro z; cases z))]; exact h))
        · exact .inl (.inr ⟨o, by rw [upd_ne (ne_of h hx3 (by intro z; cases z))]; exact h⟩)
        · exact .inr h
      refine ⟨_, rfl, r, _, rfl, .inl hR2, fun q hq => ?_⟩
      have qx : x ≠ q := ne_of_none upd_same hq
      have qp : p ≠ q := ne_of_none (by rw [upd_ne xp.symm]; exact upd_same) hq
      refine ⟨_, rfl, x, T.C_Book, dx, _, rfl, (by rw [upd_ne qx]; exact upd_same), T.cl_Book, T.n_Book_rules, (by show 1 < 1000; decide), ?_⟩
      have hqH : H q = none := by
        rw [upd_ne qx.symm, upd_ne qp.symm] at hq
        exact sm.free hq
      refine k p q _ (sm.free hp) hqH upd_same ?_ ?_ fun b o e nb => ?_
      · rw [upd_ne xp.symm, upd_ne qp, upd_ne xp.symm, upd_same]
      · rw [upd_ne qx.symm, upd_same]
      · rw [upd_ne nb, upd_ne (ne_of_none e hqH), upd_ne nb]
        exact s2 b o e
/-- Book(rules = .., tasks = ..) -/
theorem kb_Book_init (T : Tx K w mg) : KBn K T.d_Book_init ["self", "tasks", "rules"] 1 ["rules", "tasks"] (fun us ws => us ++ ws.reverse) (fun vs zs => vs ++ zs.reverse) := by
  obtain ⟨oc, od, kV, doc, pm, an, cdv, ct, osl, e, _, _⟩ := T.F_Book_init.ex
  refine ⟨fun s us ws _ h1 h2 => ?_, fun r1 r2 => r1.append r2.reverse⟩
  rw [e]
  match us, ws, h1, h2 with
  | [_], [_, _], _, _ => exact BindsTo.of_eq rfl
def sp_get (K : PySem.W.Frag) (C : Addr) (f : Str) : Sp := fun vs H Q _ => ∃ b dx t r a xs, vs = [.ref b] ∧ H b = some (.ins C dx (fl t r)) ∧ (fl t r).lookup f = some (.ref a) ∧ SqL K H a xs ∧ ∀ p, H p = none → Q (.ref p) (upd H p (.lst xs))
theorem ok_Book_tasks (T : Tx K w mg) : FnOk P w K mg base CX0 1 T.f_Book_tasks T.d_Book_tasks ["self"] (sp_get K T.C_Book "_tasks") := by
  refine T.F_Book_tasks.ok sc_Book_tasks (fun vs H Q E h => ?_) (fun cdv A outer s H vs Q E hr h => ?_)
  · obtain ⟨b, dx, t, r, a, xs, rfl, _⟩ := h
    rfl
  · obtain ⟨b, dx, t, r, a, xs, rfl, hb, hf, ha, k⟩ := h
    refine ⟨_,
    (pss_one
      (ps_ret (pe_callTy call_list_of (by rfl) T.m_list (by decide +kernel) (pa_cons (pe_fld (pv 0) rfl) pa_nil)))), ?_⟩
    exact ⟨_, rfl, b, _, dx, _, _, rfl, hb, T.cl_Book, T.n_Book_tasks, hf, a, _, rfl, .inl ha, k⟩
theorem ok_Book_rules (T : Tx K w mg) : FnOk P w K mg base CX0 1 T.f_Book_rules T.d_Book_rules ["self"] (sp_get K T.C_Book "_rules") := by
  refine T.F_Book_rules.ok sc_Book_rules (fun vs H Q E h => ?_) (fun cdv A outer s H vs Q E hr h => ?_)
  · obtain ⟨b, dx, t, r, a, xs, rfl, _⟩ := h
    rfl
  · obtain ⟨b, dx, t, r, a, xs, rfl, hb, hf, ha, k⟩ := h
    refine ⟨_,
    (pss_one
      (ps_ret (pe_callTy call_list_of (by rfl) T.m_list (by decide +kernel) (pa_cons (pe_fld (pv 0) rfl) pa_nil)))), ?_⟩
    exact ⟨_, rfl, b, _, dx, _, _, rfl, hb, T.cl_Book, T.n_Book_rules, hf, a, _, rfl, .inl ha, k⟩
def sp_len (K : PySem.W.Frag) (C : Addr) : Sp := fun vs H Q _ => ∃ b dx t r xs, vs = [.ref b] ∧ H b = some (.ins C dx (fl t r)) ∧ SqL K H r xs ∧ Q (.int xs.length) H
theorem ok_Book_len (T : Tx K w mg) : FnOk P w K mg base CX0 1 T.f_Book_len T.d_Book_len ["self"] (sp_len K T.C_Book) := by
  refine T.F_Book_len.ok sc_Book_len (fun vs H Q E h => ?_) (fun cdv A outer s H vs Q E hr h => ?_)
  · obtain ⟨b, dx, t, r, xs, rfl, _⟩ := h
    rfl
  · obtain ⟨b, dx, t, r, xs, rfl, hb, hr', k⟩ := h
    refine ⟨_,
    (pss_one
      (ps_ret (pe_callB call_len_seq (by rfl) T.m_len (by decide +kernel) (pa_cons (pe_fld (pv 0) rfl) pa_nil)))), ?_⟩
    exact ⟨_, rfl, b, _, dx, _, _, rfl, hb, T.cl_Book, T.n_Book_rules, fl_r t r, r, _, rfl, .inl hr', k⟩
/-! ### the law's deck -/
def Deck (H : Hp) (d g : Addr) : Prop := ∃ (gs : List Int) (a m : Int), H d = some (.lst [.ref g, .int a, .int m]) ∧ H g = some (.lst (gs.map V.int)) ∧ gs.length ≤ 63 ∧ (∀ x ∈ gs, 0 ≤ x) ∧ 0 ≤ a ∧ 0 ≤ m ∧ m < 2147483648
theorem Deck.ne {H : Hp} {d g : Addr} (h : Deck H d g) : d ≠ g := by
  obtain ⟨gs, a, m, h1, h2, _⟩ := h
  intro e
  subst e
  rw [h1] at h2
  cases gs with
  | nil => cases h2
  | cons x r => injection h2 with h2; injection h2 with h2; injection h2 with h2; cases h2
/-- all but the deck is as it was -/
def Kd (d g : Addr) (H H' : Hp) : Prop := ∀ b o, H b = some o → b ≠ d → b ≠ g → H' b = some o
theorem Kd.refl {d g : Addr} (H : Hp) : Kd d g H H := fun _ _ h _ _ => h
theorem Kd.trans {d g : Addr} {H H1 H2 : Hp} (a : Kd d g H H1) (b : Kd d g H1 H2) : Kd d g H H2 := fun x o h n1 n2 => b x o (a x o h n1 n2) n1 n2
theorem Same.kd {d g : Addr} {H H' : Hp} (s : Same H H') : Kd d g H H' := fun b o h _ _ => s b o h
def sp_deck (K : PySem.W.Frag) : Sp := fun vs H Q _ => ∃ (a : Addr) (ns : List Int), vs = [.ref a] ∧ SqL K H a (ns.map V.int) ∧ ns.length ≤ 63 ∧ ∀ d g H', Same H H' → Deck H' d g → Q (.ref d) H'
theorem ok_law_deck (T : Tx K w mg) : FnOk P w K mg base CX0 1 T.f_law_deck T.d_law_deck ["script"] (sp_deck K) := by
  refine T.F_law_deck.ok sc_law_deck (fun vs H Q E h => ?_) (fun cdv A outer s H vs Q E hr h => ?_)
  · obtain ⟨a, ns, rfl, _⟩ := h
    rfl
  · obtain ⟨a, ns, rfl, hS, hl, k⟩ := h
    refine ⟨_,
    (pss_cons
      (ps_set (i := 1) sc_law_deck.nd rfl (.inl rfl) (pe_op op_add pe_int (pe_op op_mod (pe_callB call_len_seq (by rfl) T.m_len (by decide +kernel) (pa_cons (pv 0) pa_nil)) pe_int)))
    (pss_cons
      (ps_for PassesOwn.never rfl (pi_list (pv 0)) (pg_name (i := 2) sc_law_deck.nd rfl (.inl rfl))
        (pss_one
          (ps_set (i := 1) sc_law_deck.nd rfl (.inl rfl) (pe_op op_mod (pe_op op_add (pe_op op_add (pe_op op_mul (pv 1) pe_int) (pe_op op_mod (pe_callTy call_int1 (by rfl) T.m_int (by decide +kernel) (pa_cons (pv 2) pa_nil)) pe_int)) pe_int) pe_int))))
    (pss_cons
      (ps_setLc (i := 3) (own := [("cell", 2)]) (g := gName 2) rfl sc_law_deck.nd rfl rfl (sw_true rfl rfl rfl (by decide +kernel)) (pi_list (pv 0)) (blkOk_by (N := ["script", "mixed", "cell", "great"]) (sc := defScope s_law_deck) (own := [("cell", 2)]) (by decide +kernel)) (fun _ _ _ _ _ => (pg_name (i := 2) sc_law_deck.nd rfl (.inl rfl))) (fun _ _ _ _ _ => (pts_one (pt_cmpR op_ge (pv 2) (pe_op op_pow pe_int pe_int) (nomark _)))) (fun _ _ _ _ _ => (pe_op op_sub (pe_callTy call_int1 (by rfl) T.m_int (by decide +kernel) (pa_cons (pv 2) pa_nil)) (pe_op op_pow pe_int pe_int))))
    (pss_one
      (ps_ret (pe_lst (pa_cons (pe_revL (pv 3)) (pa_cons pe_int (pa_cons (pe_op op_add (pe_op op_mod (pv 1) pe_int) pe_int) pa_nil))))))))), ?_⟩
    refine ⟨_, rfl, a, _, rfl, .inl hS, _, _, rfl, rfl, (by show (0 : Int) < 1009; decide), _, _, rfl, rfl, ?_⟩
    have m0 : 0 ≤ 1 + ((ns.map V.int).length : Int) % 1009 := by omega
    have m1 : 1 + ((ns.map V.int).length : Int) % 1009 < 2147483648 := by omega
    refine ⟨_, rfl, a, rfl, ⟨_, hS⟩, for_list (xs := ns.map V.int) (fun i σ H' => H' = H ∧ ∃ m x2, 0 ≤ m ∧ m < 2147483648 ∧ σ = [some (.ref a), some (.int m), x2, none]) ⟨rfl, _, none, m0, m1, rfl⟩ (fun i σ H' _ h => by rw [h.1]; exact hS) ?_ ?_⟩
    · rintro i v σ H1 hi ⟨rfl, m, x2, m0, m1, rfl⟩
      rw [List.getElem?_map] at hi
      obtain ⟨c, _, rfl⟩ := Option.map_eq_some_iff.mp hi
      refine ⟨_, rfl, _, _, rfl, rfl, .inl ⟨by omega, by omega⟩, _, rfl, .inl ⟨_, rfl, _, _, rfl, rfl, (by show (0 : Int) < 2147483563; decide), _, _, rfl, rfl, _, _, rfl, rfl, _, _, rfl, rfl, (by show (0 : Int) < 2147483399; decide), rfl, _, _, Int.emod_nonneg _ (by decide), Int.lt_trans (Int.emod_lt_of_pos _ (by decide)) (by decide), rfl⟩⟩
    · rintro σ H1 ⟨rfl, m, x2, m0, m1, rfl⟩
      refine ⟨_, rfl, a, rfl, ⟨_, hS⟩, fun D hD => ?_⟩
      refine lc_list (xs := ns.map V.int) (fun i H' => ∃ gs : List Int, gs.length ≤ i ∧ (∀ x ∈ gs, 0 ≤ x) ∧ H' D = some (.lst (gs.map V.int)) ∧ Same H1 H') ?_ ?_ ?_ ?_
      · exact ⟨[], Nat.le_refl _, (fun _ h => absurd h List.not_mem_nil), upd_same, same_upd hD⟩
      · rintro i H' _ ⟨gs, _, _, _, sm⟩
        exact sm.seq hS
      · rintro i v H' hi ⟨gs, gl, g0, eD, sm⟩
        have hil := (List.getElem?_eq_some_iff.mp hi).1
        rw [List.length_map] at hil
        rw [List.getElem?_map] at hi
        obtain ⟨c, _, rfl⟩ := Option.map_eq_some_iff.mp hi
        refine ⟨rfl, _, rfl, _, _, rfl, rfl, ⟨by decide, by decide, by decide⟩, _, _, rfl, rfl, _, rfl, ite2 (fun h => ?_) (fun _ => ⟨gs, by omega, g0, eD, sm⟩)⟩
        have h1 : (10 : Int) ^ (18 : Int).toNat ≤ c := of_decide_eq_true h
        refine ⟨_, rfl, .inl ⟨_, rfl, _, _, rfl, rfl, ⟨by decide, by decide, by decide⟩, _, _, rfl, rfl, gs.map V.int, eD, ?_, gs ++ [c - (10 : Int) ^ (18 : Int).toNat], ?_, ?_, ?_, fun b o e => ?_⟩⟩
        · rw [List.length_map]; exact small1000 (by omega)
        · rw [List.length_append]; exact Nat.succ_le_succ gl
        · intro x hx
          rcases List.mem_append.mp hx with h | h
          · exact g0 x h
          · have := List.mem_singleton.mp h
            omega
        · rw [upd_same, List.map_append]; rfl
        · rw [upd_ne (ne_of_none e hD)]; exact sm b o e
      · rintro H2 ⟨gs, gl, g0, eD, sm⟩
        rw [List.length_map] at gl
        refine ⟨_, rfl, D, _, rfl, .of eD, fun g hg => ⟨_, rfl, _, _, rfl, rfl, (by show (0 : Int) < 2147483398; decide), _, _, rfl, rfl, (by show 3 ≤ sizeLine; decide), fun d hd => ?_⟩⟩
        refine k d g _ ((sm.trans (same_upd hg)).trans (same_upd hd)) ⟨gs.reverse, 0, m % 2147483398 + 1, upd_same, ?_, by rw [List.length_reverse]; omega, fun x hx => g0 x (List.mem_reverse.mp hx), by decide, by omega, by omega⟩
        rw [upd_ne (ne_of_none upd_same hd), upd_same, List.map_reverse]
def sp_draw : Sp := fun vs H Q _ => ∃ (d g : Addr) (n : Int), vs = [.ref d, .int n] ∧ Deck H d g ∧ 0 < n ∧ n.natAbs.log2 < 9000 ∧ ∀ r H', 0 ≤ r → r < n → Deck H' d g → Kd d g H H' → Q (.int r) H'
theorem small_log {m : Int} (h : m.natAbs < 1024) : m.natAbs.log2 < 9000 := by
  have h1 : m.natAbs.log2 < 10 := PySem.Flt.log2_lt_of (by decide) h
  omega
theorem ok_law_draw (T : Tx K w mg) : FnOk P w K mg base CX0 1 T.f_law_draw T.d_law_draw ["deck", "many"] sp_draw := by
  refine T.F_law_draw.ok sc_law_draw (fun vs H Q E h => ?_) (fun cdv A outer s H vs Q E hr h => ?_)
  · obtain ⟨d, g, n, rfl, _⟩ := h
    rfl
  · obtain ⟨d, g, n, rfl, hD, hn, hl, k⟩ := h
    refine ⟨_,
    (pss_cons
      (ps_while PassesOwn.never (PW.pt (pw_and (pt_cmpR op_lt (pe_ix ix_list (pv 0) pe_int (fun _ _ => rfl)) pe_int (nomark _)) (pw_and1 (pt_cmpR op_gt (pe_callB call_len_seq (by rfl) T.m_len (by decide +kernel) (pa_cons (pe_ix ix_list (pv 0) pe_int (fun _ _ => rfl)) pa_nil)) pe_int (nomark _)))))
        (pss_one
          (ps_asg (pe_bm0 PySem.F.plainAttrs_list PySem.F.slot_list_pop PySem.F.type_list_pop mt_pop (pe_ix ix_list (pv 0) pe_int (fun _ _ => rfl))) (pg_sub (pv 0) pe_int set_list))))
    (pss_cons
      (ps_if (pt_cmpR op_gt (pe_ix ix_list (pv 0) pe_int (fun _ _ => rfl)) pe_int (nomark _))
        (pss_cons
          (ps_set (i := 2) sc_law_draw.nd rfl (.inl rfl) (pe_op op_mod (pe_callTy call_int1 (by rfl) T.m_int (by decide +kernel) (pa_cons (pe_ix ix_list (pv 0) pe_int (fun _ _ => rfl)) pa_nil)) (pv 1)))
        (pss_cons
          (ps_asg (pe_op op_fdivW (pe_ix ix_list (pv 0) pe_int (fun _ _ => rfl)) (pv 1)) (pg_sub (pv 0) pe_int set_list))
        (pss_one
          (ps_ret (pv 2)))))
        pss_nil)
    (pss_cons
      (ps_asg (pe_op op_mod (pe_op op_mul (pe_ix ix_list (pv 0) pe_int (fun _ _ => rfl)) pe_int) pe_int) (pg_sub (pv 0) pe_int set_list))
    (pss_one
      (ps_ret (pe_op op_mod (pe_op op_fdiv (pe_op op_add (pe_op op_mod (pe_op op_mul (pe_ix ix_list (pv 0) pe_int (fun _ _ => rfl)) (pe_ix ix_list (pv 0) pe_int (fun _ _ => rfl))) pe_int) (pe_op op_fdiv (pe_ix ix_list (pv 0) pe_int (fun _ _ => rfl)) pe_int)) pe_int) (pv 1))))))), ?_⟩
    have dg := hD.ne
    obtain ⟨gs, a, m, hd, hg, gl, g0, a0, m0, m1⟩ := hD
    refine ⟨fun t σ H' => ∃ (gs : List Int) (a : Int), gs.length = t ∧ σ = [some (.ref d), some (.int n), none] ∧ H' d = some (.lst [.ref g, .int a, .int m]) ∧ H' g = some (.lst (gs.map V.int)) ∧ gs.length ≤ 63 ∧ (∀ x ∈ gs, 0 ≤ x) ∧ 0 ≤ a ∧ Kd d g H H',
      ⟨_, gs, a, rfl, rfl, hd, hg, gl, g0, a0, Kd.refl H⟩, ?_⟩
    clear hd hg gl g0 a0 gs a
    rintro t σ H1 ⟨gs, a, tl, rfl, hd, hg, gl, g0, a0, kd⟩
    refine ⟨_, rfl, d, _, _, _, rfl, rfl, .of hd, atI_nat (j := 1) rfl, _, _, rfl, rfl, _, rfl, ite2 (fun c1 => ?_) (fun c1 => ?_)⟩
    · refine ⟨_, rfl, d, _, _, _, rfl, rfl, .of hd, atI_nat (j := 0) rfl, g, _, rfl, .inl (.of hg), _, _, rfl, rfl, _, rfl, ite2 (fun c2 => ?_) (fun c2 => ?_)⟩
      · have c3 : 0 < gs.length := by
          have : (0 : Int) < ((gs.map V.int).length : Int) := of_decide_eq_true c2
          rw [List.length_map] at this
          omega
        have hz : gs[gs.length - 1]? = some gs[gs.length - 1] := List.getElem?_eq_getElem (by omega)
        have hm := List.mem_of_getElem? hz
        generalize gs[gs.length - 1] = z at hz hm
        refine ⟨fun σ' H' => ∃ (gs : List Int) (a : Int), gs.length < t ∧ σ' = [some (.ref d), some (.int n), none] ∧ H' d = some (.lst [.ref g, .int a, .int m]) ∧ H' g = some (.lst (gs.map V.int)) ∧ gs.length ≤ 63 ∧ (∀ x ∈ gs, 0 ≤ x) ∧ 0 ≤ a ∧ Kd d g H H',
          fun σ' H' ⟨gs, a, h1, h2⟩ => ⟨_, h1, gs, a, rfl, h2⟩, ?_⟩
        refine ⟨_, rfl, d, _, _, _, rfl, rfl, .of hd, atI_nat (j := 0) rfl, .inl ⟨rfl, _, .of hg⟩, g, gs.map V.int, V.int z, rfl, rfl, hg, ?_, _, rfl, d, [.ref g, .int a, .int m], _, 1, rfl, rfl, ?_, rfl, gs.dropLast, z, ?_, rfl, ?_, ?_, ?_, ?_, g0 z hm, fun b o e n1 n2 => ?_⟩
        · rw [List.length_map, List.getElem?_map, hz]; rfl
        · rw [upd_ne dg]; exact hd
        · rw [List.length_dropLast]; omega
        · rw [upd_same]; rfl
        · rw [upd_ne dg.symm, upd_same, List.map_dropLast]
        · rw [List.length_dropLast]; omega
        · exact fun x hx => g0 x (List.dropLast_subset gs hx)
        · rw [upd_ne n1, upd_ne n2]; exact kd b o e n1 n2
      · refine ⟨_, rfl, d, _, _, _, rfl, rfl, .of hd, atI_nat (j := 1) rfl, _, _, rfl, rfl, _, rfl, iteND (by have : a < 2 := of_decide_eq_true c1; omega) ?_⟩
        have bm : -(2 ^ 64) < m ∧ m < 2 ^ 64 := ⟨by omega, by omega⟩
        have b0 : 0 ≤ m * 48271 % 2147483647 := Int.emod_nonneg _ (by decide)
        have b1 : m * 48271 % 2147483647 < 2147483647 := Int.emod_lt_of_pos _ (by decide)
        have bn : -(2 ^ 64) < m * 48271 % 2147483647 ∧ m * 48271 % 2147483647 < 2 ^ 64 := ⟨by omega, by omega⟩
        refine ⟨_, rfl, d, _, _, _, rfl, rfl, .of hd, atI_nat (j := 2) rfl, _, _, rfl, rfl, .inl bm, _, _, rfl, rfl, (by show (0 : Int) < 2147483647; decide), _, rfl, d, [.ref g, .int a, .int m], _, 2, rfl, rfl, hd, rfl, ?_⟩
        have e2 : (upd H1 d (.lst ([V.ref g, V.int a, V.int m].set 2 (V.int (m * 48271 % 2147483647))))) d = some (.lst [V.ref g, V.int a, V.int (m * 48271 % 2147483647)]) := upd_same
        refine ⟨_, rfl, d, _, _, _, rfl, rfl, .of e2, atI_nat (j := 2) rfl, _, rfl, d, _, _, _, rfl, rfl, .of e2, atI_nat (j := 2) rfl, _, _, rfl, rfl, .inl bn, _, _, rfl, rfl, (by show (0 : Int) < 2147483629; decide), _, rfl, d, _, _, _, rfl, rfl, .of e2, atI_nat (j := 2) rfl, _, _, rfl, rfl, ⟨by decide, by decide⟩, _, _, rfl, rfl, _, _, rfl, rfl, ⟨by decide, by decide⟩, _, rfl, _, _, rfl, rfl, hn, ?_⟩
        refine k _ _ (Int.emod_nonneg _ (by omega)) (Int.emod_lt_of_pos _ hn) ⟨gs, a, m * 48271 % 2147483647, e2, ?_, gl, g0, a0, b0, by omega⟩ fun b o e n1 n2 => ?_
        · rw [upd_ne dg.symm]; exact hg
        · rw [upd_ne n1]; exact kd b o e n1 n2
    · have c2 : ¬ a < 2 := fun z => c1 (decide_eq_true z)
      refine ⟨_, rfl, d, _, _, _, rfl, rfl, .of hd, atI_nat (j := 1) rfl, _, _, rfl, rfl, _, rfl, iteD (by omega) ?_⟩
      refine ⟨_, rfl, d, _, _, _, rfl, rfl, .of hd, atI_nat (j := 1) rfl, .inl ⟨_, rfl, _, rfl, _, _, rfl, rfl, hn, ?_⟩⟩
      refine ⟨_, rfl, d, _, _, _, rfl, rfl, .of hd, atI_nat (j := 1) rfl, _, rfl, _, _, rfl, rfl, ⟨hn, hl⟩, _, rfl, d, [.ref g, .int a, .int m], _, 1, rfl, rfl, hd, rfl, ?_⟩
      refine ⟨_, rfl, k _ _ (Int.emod_nonneg _ (by omega)) (Int.emod_lt_of_pos _ hn) ⟨gs, a / n, m, upd_same, ?_, gl, g0, Int.ediv_nonneg a0 (by omega), m0, m1⟩ fun b o e n1 n2 => ?_⟩
      · rw [upd_ne dg.symm]; exact hg
      · rw [upd_ne n1]; exact kd b o e n1 n2
/-! ### names -/
theorem Deck.same {H H' : Hp} {d g : Addr} (s : Same H H') (h : Deck H d g) : Deck H' d g := by
  obtain ⟨gs, a, m, h1, h2, h3⟩ := h
  exact ⟨gs, a, m, s _ _ h1, s _ _ h2, h3⟩
theorem Deck.at {H : Hp} {d g : Addr} (h : Deck H d g) : (∃ o, H d = some o) ∧ ∃ o, H g = some o := by
  obtain ⟨gs, a, m, h1, h2, h3⟩ := h
  exact ⟨⟨_, h1⟩, _, h2⟩
theorem Deck.new {H : Hp} {d g p : Addr} (h : Deck H d g) (hp : H p = none) : p ≠ d ∧ p ≠ g := by
  obtain ⟨⟨o, h1⟩, u, h2⟩ := h.at
  exact ⟨(ne_of_none h1 hp).symm, (ne_of_none h2 hp).symm⟩
theorem Kd.free {d g p : Addr} {H H' : Hp} (k : Kd d g H H') (h : H' p = none) (n1 : p ≠ d) (n2 : p ≠ g) : H p = none := by
  cases q : H p with
  | none => rfl
  | some o =>
    rw [k p o q n1 n2] at h
    cases h
def ltr : Str := "abcdefghijklmnopqrstuvwxyz"
theorem ltr_l : ltr.cps.toList = [97, 98, 99, 100, 101, 102, 103, 104, 105, 106, 107, 108, 109, 110, 111, 112, 113, 114, 115, 116, 117, 118, 119, 120, 121, 122] := by decide +kernel
theorem ltr_at : ∀ r : Nat, r < 26 → ltr.cps.toList[r]? = some (97 + r) := by
  rw [ltr_l]
  decide
theorem ltr_len : ltr.length ≤ sizeLine := by
  rw [len_l, ltr_l]
  show 26 ≤ sizeLine
  decide
def wrd : List Str := ["before", "upto", "same", "apart", "far", "next", "first", "last"]
theorem wrd_nm : ∀ z ∈ wrd, Nm z := by
  have h : ∀ z ∈ wrd, 1 ≤ z.length ∧ z.length ≤ 8 ∧ ∀ c ∈ z.cps.toList, 97 ≤ c ∧ c ≤ 122 := by decide +kernel
  exact fun z hz => ⟨(h z hz).1, (h z hz).2.1, (h z hz).2.2⟩
def one (c : Nat) : Str := ⟨#[c]⟩
theorem l_app (x y : Str) : (x ++ y).cps.toList = x.cps.toList ++ y.cps.toList := TL.tl_append x y
theorem l_cutT (z : Str) (i : Nat) : (cutS z none (some (i : Int))).cps.toList = z.cps.toList.take i := by
  show (z.cps.toList.drop 0).take (HT.sIx z.length z.length (some (i : Int)) - 0) = _
  rw [show HT.sIx z.length z.length (some (i : Int)) = min i z.length from HT.sIx_nat _ _ i, List.drop_zero, Nat.sub_zero, len_l]
  by_cases h : i ≤ z.cps.toList.length
  · rw [Nat.min_eq_left h]
  · rw [Nat.min_eq_right (by omega), List.take_of_length_le (Nat.le_refl _), List.take_of_length_le (by omega)]
theorem l_cutD (z : Str) (i : Nat) : (cutS z (some (i : Int)) none).cps.toList = z.cps.toList.drop i := by
  show (z.cps.toList.drop (HT.sIx z.length 0 (some (i : Int)))).take (z.length - HT.sIx z.length 0 (some (i : Int))) = _
  rw [show HT.sIx z.length 0 (some (i : Int)) = min i z.length from HT.sIx_nat _ _ i, len_l]
  by_cases h : i ≤ z.cps.toList.length
  · rw [Nat.min_eq_left h]
    exact List.take_of_length_le (by rw [List.length_drop]; exact Nat.le_refl _)
  · rw [Nat.min_eq_right (by omega), Nat.sub_self, List.take_zero, List.drop_eq_nil_of_le (by omega)]
theorem joinL_one : ∀ cs : List Nat, TL.joinL [] (cs.map fun c => [c]) = cs
  | [] => rfl
  | [_] => rfl
  | a :: b :: r => by
    have ih := joinL_one (b :: r)
    show [a] ++ ([] ++ TL.joinL [] ((b :: r).map fun c => [c])) = a :: b :: r
    rw [ih]
    rfl
theorem l_join (cs : List Nat) : (Txt.join ("" : Str) (cs.map one)).cps.toList = cs := by
  rw [TL.join_eq]
  show TL.tl _ = _
  rw [TL.tl_join, List.map_map]
  exact joinL_one cs
theorem join_room (cs : List Nat) (h : cs.length ≤ 1000) : ((cs.map one).map (·.length)).sum + (cs.map one).length * ("" : Str).length ≤ 16777216 := by
  have e : ((cs.map one).map (·.length)).sum = cs.length := by
    clear h
    induction cs with
    | nil => rfl
    | cons a r ih =>
      rw [List.map_cons, List.map_cons, List.sum_cons, ih, List.length_cons]
      show 1 + r.length = _
      omega
  rw [e, show ("" : Str).length = 0 from by decide +kernel]
  omega
theorem nodup_le : ∀ {l m : List Str}, l.Nodup → (∀ x ∈ l, x ∈ m) → l.length ≤ m.length
  | [], _, _, _ => Nat.zero_le _
  | a :: r, m, nd, h => by
    have ha := h a List.mem_cons_self
    have nd2 := List.nodup_cons.mp nd
    have ih := nodup_le (l := r) (m := m.erase a) nd2.2 fun x hx => (List.mem_erase_of_ne (fun e : x = a => nd2.1 (e ▸ hx))).mpr (h x (List.mem_cons_of_mem _ hx))
    rw [List.length_erase_of_mem ha] at ih
    have := List.length_pos_of_mem ha
    rw [List.length_cons]
    omega
theorem ltr_free {ts : List Str} (h : ts.length < 26) : ∃ c r, ltr.cps.toList.filter (fun c => decide (one c ∉ ts)) = c :: r := by
  cases e : ltr.cps.toList.filter (fun c => decide (one c ∉ ts)) with
  | cons c r => exact ⟨c, r, rfl⟩
  | nil =>
    exfalso
    have h1 : ∀ x ∈ ltr.cps.toList.map one, x ∈ ts := fun x hx => by
      obtain ⟨c, hc, rfl⟩ := List.mem_map.mp hx
      have := List.filter_eq_nil_iff.mp e c hc
      simpa using this
    have h2 : (ltr.cps.toList.map one).Nodup := by
      rw [ltr_l]
      decide +kernel
    have := nodup_le h2 h1
    rw [List.length_map, ltr_l] at this
    have h3 : 26 ≤ ts.length := this
    omega
theorem nm_one {c : Nat} (h1 : 97 ≤ c) (h2 : c ≤ 122) : Nm (one c) := ⟨by show 1 ≤ 1; decide, by show 1 ≤ 8; decide, fun x hx => by
  have : x = c := by simpa [one] using hx
  omega⟩
/-- [letters[draw(26)] for .. in range(n)]: the deck in slot 0, the letters in slot 2, the comprehension's own name in slot j -/
theorem lc_letters {σ : L2.St} {H : Hp} {j : Nat} {d g D : Addr} {n : Nat} {Qd : Hp → Prop} (hn : n ≤ 1000) (s0 : σ[0]? = some (some (.ref d))) (s2 : σ[2]? = some (some (.str ltr))) (j0 : j ≠ 0) (j2 : j ≠ 2) (hD : Deck H d g) (nD : H D = none)
    (q : ∀ (H' : Hp) (cs : List Nat), Deck H' d g → Kd d g H H' → H' D = some (.lst ((cs.map one).map V.str)) → cs.length = n → (∀ c ∈ cs, 97 ≤ c ∧ c ≤ 122) → Qd H') :
    ∃ W : Nat → Nat → Hp → Prop, (∃ m, W 0 m (upd H D (.lst []))) ∧ ∀ i m H, W i m H →
      ((Itr 0 n).stop i H ∧ Qd H) ∨ ((Itr 0 n).go i H ∧ ∃ Nx : Hp → Prop, (∀ H', Nx H' → ∃ m', m' < m ∧ W (i + 1) m' H') ∧ ∀ x H', (Itr 0 n).yld i H x H' → gName j x (wipe σ [j]) H' fun σ2 H2 => wipe σ2 [j] = wipe σ [j] ∧ tYes σ2 H2 fun b H3 =>
        if b = true then (tOp rIxS (tVar 2) (tCall sp_draw [] E0 (tCons (tVar 0) (tCons (tC (.int 26)) tNil)))) σ2 H3 fun y H4 => ∃ acc, H4 D = some (.lst acc) ∧ acc.length < sizeLine ∧ Nx (upd H4 D (.lst (acc ++ [y]))) else Nx H3) := by
  have nD2 := hD.new nD
  refine lc_range (lo := 0) (n := n) (fun i H' => ∃ cs : List Nat, Deck H' d g ∧ Kd d g H H' ∧ H' D = some (.lst ((cs.map one).map V.str)) ∧ cs.length = i ∧ ∀ c ∈ cs, 97 ≤ c ∧ c ≤ 122) ?_ ?_ ?_
  · exact ⟨[], hD.same (same_upd nD), Same.kd (same_upd nD), upd_same, rfl, fun _ h => absurd h List.not_mem_nil⟩
  · rintro i H1 hi ⟨cs, hD1, k1, eD, hl, low⟩
    have w : wipe ((wipe σ [j]).set j (some (.int (0 + (i : Int))))) [j] = wipe σ [j] := by
      show (((σ.set j none).set j (some (.int (0 + (i : Int))))).set j none) = σ.set j none
      rw [List.set_set, List.set_set]
    have t0 : ((wipe σ [j]).set j (some (.int (0 + (i : Int)))))[0]? = some (some (.ref d)) := by
      show ((σ.set j none).set j _)[0]? = _
      rw [List.getElem?_set_ne j0, List.getElem?_set_ne j0]
      exact s0
    have t2 : ((wipe σ [j]).set j (some (.int (0 + (i : Int)))))[2]? = some (some (.str ltr)) := by
      show ((σ.set j none).set j _)[2]? = _
      rw [List.getElem?_set_ne j2, List.getElem?_set_ne j2]
      exact s2
    refine ⟨w, _, t2, _, t0, d, g, 26, rfl, hD1, by decide, by decide +kernel, fun r H2 r0 r1 hD2 k2 => ?_⟩
    obtain ⟨m, rfl⟩ := Int.eq_ofNat_of_zero_le r0
    refine ⟨ltr, m, 97 + m, rfl, rfl, ltr_len, atI_nat (ltr_at m (by omega)), (cs.map one).map V.str, k2 _ _ eD nD2.1 nD2.2, ?_, cs ++ [97 + m], ?_, ?_, ?_, ?_, ?_⟩
    · rw [List.length_map, List.length_map]; exact small1000 (by omega)
    · obtain ⟨gs, a, mm, h1, h2, h3⟩ := hD2
      exact ⟨gs, a, mm, by rw [upd_ne nD2.1.symm]; exact h1, by rw [upd_ne nD2.2.symm]; exact h2, h3⟩
    · intro b o e n1 n2
      rw [upd_ne (ne_of_none e nD)]
      exact k2 b o (k1 b o e n1 n2) n1 n2
    · rw [upd_same, List.map_append, List.map_append]; rfl
    · rw [List.length_append, hl]; rfl
    · intro c hc
      rcases List.mem_append.mp hc with h | h
      · exact low c h
      · have := List.mem_singleton.mp h
        omega
  · rintro H1 ⟨cs, hD1, k1, eD, hl, low⟩
    exact q H1 cs hD1 k1 eD hl low
/-- what stands while names are found -/
structure NSt (H0 H' : Hp) (d g F W : Addr) (ts : List Str) : Prop where
  dk : Deck H' d g
  kd : Kd d g H0 H'
  eF : H' F = some (.lst (ts.map V.str))
  eW : H' W = some (.lst (wrd.map V.str))
  fF : H0 F = none
  nF : F ≠ d ∧ F ≠ g
  nW : W ≠ d ∧ W ≠ g
theorem NSt.draw {H0 H1 H2 : Hp} {d g F W : Addr} {ts : List Str} (n : NSt H0 H1 d g F W ts) (h : Deck H2 d g) (k : Kd d g H1 H2) : NSt H0 H2 d g F W ts :=
  ⟨h, n.kd.trans k, k _ _ n.eF n.nF.1 n.nF.2, k _ _ n.eW n.nW.1 n.nW.2, n.fF, n.nF, n.nW⟩
theorem nm_mid {st : Str} {a r : Nat} (low : Low st) (hl : st.length ≤ 7) (ha : a ≤ st.length) (hr : r < 26) : Nm ((cutS st none (some (a : Int)) ++ one (97 + r)) ++ cutS st (some (a : Int)) none) := by
  have e : ((cutS st none (some (a : Int)) ++ one (97 + r)) ++ cutS st (some (a : Int)) none).cps.toList = (st.cps.toList.take a ++ [97 + r]) ++ st.cps.toList.drop a := by
    rw [l_app, l_app, l_cutT, l_cutD]
    rfl
  rw [len_l] at hl ha
  refine ⟨?_, ?_, fun c hc => ?_⟩
  · rw [len_l, e, List.length_append, List.length_append, List.length_take, List.length_drop, List.length_singleton]; omega
  · rw [len_l, e, List.length_append, List.length_append, List.length_take, List.length_drop, List.length_singleton]; omega
  · rw [e] at hc
    rcases List.mem_append.mp hc with h | h
    · rcases List.mem_append.mp h with h | h
      · exact low c (List.mem_of_mem_take h)
      · have := List.mem_singleton.mp h
        omega
    · exact low c (List.mem_of_mem_drop h)
theorem nm_q {st : Str} {a : Nat} (low : Low st) (hl : st.length ≤ 7) (ha : a ≤ st.length) : Nm (cutS (st ++ ("q" : Str)) none (some (1 + (a : Int)))) := by
  have e : (cutS (st ++ ("q" : Str)) none (some (1 + (a : Int)))).cps.toList = (st.cps.toList ++ [113]).take (1 + a) := by
    have h := l_cutT (st ++ ("q" : Str)) (1 + a)
    rw [show ((1 + a : Nat) : Int) = 1 + (a : Int) by omega] at h
    rw [h, l_app, show ("q" : Str).cps.toList = [113] by decide +kernel]
  rw [len_l] at hl ha
  refine ⟨?_, ?_, fun c hc => ?_⟩
  · rw [len_l, e, List.length_take, List.length_append, List.length_singleton]; omega
  · rw [len_l, e, List.length_take, List.length_append, List.length_singleton]; omega
  · rw [e] at hc
    rcases List.mem_append.mp (List.mem_of_mem_take hc) with h | h
    · exact low c h
    · have := List.mem_singleton.mp h
      omega
theorem str_line {n : Nat} (h : n ≤ 1000) : n ≤ sizeLine := Nat.le_of_lt (small1000 h)
def sp_names : Sp := fun vs H Q _ => ∃ (d g : Addr) (n : Nat), vs = [.ref d, .int n] ∧ Deck H d g ∧ 0 < n ∧ n ≤ 12 ∧
  ∀ (p : Addr) (ts : List Str) (H' : Hp), Deck H' d g → Kd d g H H' → H p = none → H' p = some (.lst (ts.map V.str)) → p ≠ d → p ≠ g → ts.length = n → (∀ z ∈ ts, Nm z) → ts.Nodup → Q (.ref p) H'
theorem ok_law_names (T : Tx K w mg) : FnOk P w K mg base CX0 2 T.f_law_names T.d_law_names ["deck", "many"] sp_names := by
  refine T.F_law_names.ok sc_law_names (fun vs H Q E h => ?_) (fun cdv A outer s H vs Q E hr h => ?_)
  · obtain ⟨d, g, n, rfl, _⟩ := h
    rfl
  · obtain ⟨d, g, n, rfl, hD, hn, hl, k⟩ := h
    refine ⟨_,
    (pss_cons
      (ps_set (i := 2) sc_law_names.nd rfl (.inr rfl) pe_str)
    (pss_cons
      (ps_set (i := 3) sc_law_names.nd rfl (.inl rfl) (pe_lst (pa_cons pe_str (pa_cons pe_str (pa_cons pe_str (pa_cons pe_str (pa_cons pe_str (pa_cons pe_str (pa_cons pe_str (pa_cons pe_str pa_nil))))))))))
    (pss_cons
      (ps_set (i := 4) sc_law_names.nd rfl (.inl rfl) (pe_call (ok_law_draw T) hr (by rfl) T.g_law_draw T.F_law_draw.kp T.b_law_draw .nil pass0 (pa_cons (pv 0) (pa_cons pe_int pa_nil))))
    (pss_cons
      (ps_set (i := 5) sc_law_names.nd rfl (.inl rfl) (pe_join pe_str (pe_lc (own := [("k", 7)]) (g := gName 7) rfl sc_law_names.nd (pi_range1 (by rfl) T.m_range (pa_cons (pe_call (ok_law_draw T) hr (by rfl) T.g_law_draw T.F_law_draw.kp T.b_law_draw .nil pass0 (pa_cons (pv 0) (pa_cons pe_int pa_nil))) pa_nil)) (blkOk_by (N := ["deck", "many", "letters", "words", "way", "stem", "found", "k", "at", "name", "m", "one"]) (sc := defScope s_law_names) (own := [("k", 7)]) (by decide +kernel)) (fun _ _ _ _ _ => (pg_name (i := 7) sc_law_names.nd rfl (.inl rfl))) (fun _ _ _ _ _ => pts_nil) (fun _ _ _ _ _ => (pe_ix ix_str (pv 2) (pe_call (ok_law_draw T) hr (by rfl) T.g_law_draw T.F_law_draw.kp T.b_law_draw .nil pass0 (pa_cons (pv 0) (pa_cons pe_int pa_nil))) (fun _ _ => rfl))))))
    (pss_cons
      (ps_set (i := 6) sc_law_names.nd rfl (.inr rfl) (pe_lst pa_nil))
    (pss_cons
      (ps_for PassesOwn.never rfl (pi_range1 (by rfl) T.m_range (pa_cons (pv 1) pa_nil)) (pg_name (i := 7) sc_law_names.nd rfl (.inl rfl))
        (pss_cons
          (ps_set (i := 8) sc_law_names.nd rfl (.inl rfl) (pe_call (ok_law_draw T) hr (by rfl) T.g_law_draw T.F_law_draw.kp T.b_law_draw .nil pass0 (pa_cons (pv 0) (pa_cons (pe_op op_add (pe_callB call_len_str (by rfl) T.m_len (by decide +kernel) (pa_cons (pv 5) pa_nil)) pe_int) pa_nil))))
        (pss_cons
          (ps_set (i := 9) sc_law_names.nd rfl (.inl rfl) (pe_op op_add_str (pe_op op_add_str (pe_slice sl_str (pv 5) po_none (po_some (pv 8))) (pe_ix ix_str (pv 2) (pe_call (ok_law_draw T) hr (by rfl) T.g_law_draw T.F_law_draw.kp T.b_law_draw .nil pass0 (pa_cons (pv 0) (pa_cons pe_int pa_nil))) (fun _ _ => rfl))) (pe_slice sl_str (pv 5) (po_some (pv 8)) po_none)))
        (C8.pss_cut
          (ps_if (pt_cmpR op_eq (pv 4) pe_int (nomark _))
            (pss_one
              (ps_set (i := 9) sc_law_names.nd rfl (.inl rfl) (pe_slice sl_str (pe_op op_add_str (pv 5) pe_str) po_none (po_some (pe_op op_add pe_int (pv 8))))))
            pss_nil)
        (C8.pss_cut
          (ps_if (pt_cmpR op_eq (pv 4) pe_int (nomark _))
            (pss_one
              (ps_set (i := 9) sc_law_names.nd rfl (.inl rfl) (pe_ix ix_list (pv 3) (pe_call (ok_law_draw T) hr (by rfl) T.g_law_draw T.F_law_draw.kp T.b_law_draw .nil pass0 (pa_cons (pv 0) (pa_cons pe_int pa_nil))) (fun _ _ => rfl))))
            pss_nil)
        (C8.pss_cut
          (ps_if (pt_cmpR op_eq (pv 4) pe_int (nomark _))
            (pss_one
              (ps_set (i := 9) sc_law_names.nd rfl (.inl rfl) (pe_join pe_str (pe_lc (own := [("m", 10)]) (g := gName 10) rfl sc_law_names.nd (pi_range1 (by rfl) T.m_range (pa_cons (pe_op op_add pe_int (pe_call (ok_law_draw T) hr (by rfl) T.g_law_draw T.F_law_draw.kp T.b_law_draw .nil pass0 (pa_cons (pv 0) (pa_cons pe_int pa_nil)))) pa_nil)) (blkOk_by (N := ["deck", "many", "letters", "words", "way", "stem", "found", "k", "at", "name", "m", "one"]) (sc := defScope s_law_names) (own := [("m", 10)]) (by decide +kernel)) (fun _ _ _ _ _ => (pg_name (i := 10) sc_law_names.nd rfl (.inl rfl))) (fun _ _ _ _ _ => pts_nil) (fun _ _ _ _ _ => (pe_ix ix_str (pv 2) (pe_call (ok_law_draw T) hr (by rfl) T.g_law_draw T.F_law_draw.kp T.b_law_draw .nil pass0 (pa_cons (pv 0) (pa_cons pe_int pa_nil))) (fun _ _ => rfl)))))))
            pss_nil)
        (C8.pss_cut
          (ps_if (pt_cmpR op_in_seq (pv 9) (pv 6) (by rfl))
            (pss_one
              (ps_set (i := 9) sc_law_names.nd rfl (.inl rfl) (pe_ix ix_list (pe_lc (own := [("one", 11)]) (g := gName 11) rfl sc_law_names.nd (pi_str (pv 2)) (blkOk_by (N := ["deck", "many", "letters", "words", "way", "stem", "found", "k", "at", "name", "m", "one"]) (sc := defScope s_law_names) (own := [("one", 11)]) (by decide +kernel)) (fun _ _ _ _ _ => (pg_name (i := 11) sc_law_names.nd rfl (.inl rfl))) (fun _ _ _ _ _ => (pts_one (pt_cmpR (r := rIn K true) op_notIn_seq (pv 11) (pv 6) (by rfl)))) (fun _ _ _ _ _ => (pv 11))) pe_int (fun _ _ => rfl))))
            pss_nil)
        (pss_one
          (ps_expr (pe_bm PySem.F.plainAttrs_list PySem.F.slot_list_append PySem.F.type_list_append mt_append (pv 6) (pa_cons (pv 9) pa_nil)))))))))))
    (pss_one
      (ps_ret (pv 6))))))))), ?_⟩
    refine ⟨(by show 8 ≤ sizeLine; decide), fun W hW => ?_⟩
    have nW := hD.new hW
    refine ⟨_, rfl, d, g, 4, rfl, hD.same (same_upd hW), by decide, by decide +kernel, fun way H2 w0 w1 hD2 k2 => ?_⟩
    have eW : H2 W = some (.lst (wrd.map V.str)) := k2 _ _ upd_same nW.1 nW.2
    -- stem
    refine ⟨⟨_, rfl⟩, _, rfl, d, g, 8, rfl, hD2, by decide, by decide +kernel, fun m H3 m0 m1 hD3 k3 => ⟨_, rfl, by omega, by omega, fun J hJ => ?_⟩⟩
    refine lc_letters (n := m.toNat) (by omega) rfl rfl (by decide) (by decide) hD3 hJ fun H4 cs hD4 k4 eJ cl low => ?_
    refine ⟨_, J, cs.map one, rfl, rfl, .inl (.of eJ), join_room cs (by omega), ?_⟩
    have ls : Low (Txt.join ("" : Str) (cs.map one)) := fun c hc => by rw [l_join] at hc; exact low c hc
    have ll : (Txt.join ("" : Str) (cs.map one)).length ≤ 7 := by rw [len_l, l_join]; omega
    generalize hst : Txt.join ("" : Str) (cs.map one) = st at ls ll
    -- found = []
    refine ⟨Nat.zero_le _, fun F hF => ?_⟩
    have k0 : Kd d g H H4 := (Same.kd (same_upd hW)).trans (k2.trans (k3.trans k4))
    have eW4 := k4 _ _ (k3 _ _ eW nW.1 nW.2) nW.1 nW.2
    have nF := hD4.new hF
    have WF : W ≠ F := ne_of_none eW4 hF
    have fF : H F = none := k0.free hF nF.1 nF.2
    have n0 : NSt H (upd H4 F (.lst [])) d g F W [] := ⟨hD4.same (same_upd hF), k0.trans (Same.kd (same_upd hF)), upd_same, by rw [upd_ne WF]; exact eW4, fF, nF, nW⟩
    generalize upd H4 F (.lst []) = H5 at n0
    clear eW eW4 k0 k2 k3 k4 hD2 hD3 hD4 hF eJ
    refine ⟨_, rfl, _, rfl, by omega, by omega, for_range (n := _) (fun i σ H' => ∃ (ts : List Str) (x7 x8 x9 : Option V), σ = [some (.ref d), some (.int (n : Int)), some (.str ltr), some (.ref W), some (.int way), some (.str st), some (.ref F), x7, x8, x9, none, none] ∧
      NSt H H' d g F W ts ∧ ts.length = i ∧ (∀ z ∈ ts, Nm z) ∧ ts.Nodup) ⟨[], none, none, none, rfl, n0, rfl, (fun _ h => absurd h List.not_mem_nil), List.nodup_nil⟩ ?_ ?_⟩
    · rintro i σ H6 hi ⟨ts, x7, x8, x9, rfl, n6, tl, tn, td⟩
      have hi12 : i < 12 := by
        have : i < ((n : Int)).toNat := hi
        omega
      -- at, name
      refine ⟨_, rfl, _, rfl, _, rfl, str_line (by omega), _, _, rfl, rfl, d, g, _, rfl, n6.dk, ?_, ?_, fun a H7 a0 a1 hD7 k7 => ?_⟩
      · show (0 : Int) < (st.length : Int) + 1
        omega
      · exact small_log (by show ((st.length : Int) + 1).natAbs < 1024; omega)
      have a2 : a < (st.length : Int) + 1 := a1
      obtain ⟨a, rfl⟩ := Int.eq_ofNat_of_zero_le a0
      have n7 := n6.draw hD7 k7
      refine ⟨_, rfl, _, rfl, _, rfl, st, rfl, str_line (by omega), _, rfl, _, rfl, d, g, 26, rfl, n7.dk, by decide, by decide +kernel, fun r H8 r0 r1 hD8 k8 => ?_⟩
      obtain ⟨r, rfl⟩ := Int.eq_ofNat_of_zero_le r0
      have n8 := n7.draw hD8 k8
      have nz := nm_mid (st := st) (a := a) (r := r) ls ll (by omega) (by omega)
      have c1 := cutS_length st none (some (a : Int))
      have c2 := cutS_length st (some (a : Int)) none
      refine ⟨ltr, r, 97 + r, rfl, rfl, ltr_len, atI_nat (ltr_at r (by omega)), _, _, rfl, rfl, str_line (by show _ + 1 ≤ 1000; omega), _, rfl, _, rfl, _, rfl, st, rfl, str_line (by omega), _, _, rfl, rfl, str_line ?_, ?_⟩
      · have h1 := nz.few
        rw [len_l, l_app, List.length_append, ← len_l, ← len_l] at h1
        exact Nat.le_trans h1 (by decide)
      refine ⟨fun σ' H' => ∃ z, σ' = [some (.ref d), some (.int (n : Int)), some (.str ltr), some (.ref W), some (.int way), some (.str st), some (.ref F), some (.int (0 + (i : Int))), some (.int (a : Int)), some (.str z), none, none] ∧ NSt H H' d g F W ts ∧ Nm z, ?_, ?_⟩
      · refine ⟨_, rfl, rfl, _, rfl, ite2 (fun c => ?_) (fun c => ⟨(cutS st none (some (a : Int)) ++ one (97 + r)) ++ cutS st (some (a : Int)) none, rfl, n8, nz⟩)⟩
        refine ⟨_, rfl, _, _, rfl, rfl, str_line (by show _ + 1 ≤ 1000; omega), _, rfl, _, _, rfl, rfl, _, rfl, _, rfl, str_line ?_, _, rfl, n8, nm_q ls ll (by omega)⟩
        rw [len_l, l_app, List.length_append, ← len_l]
        show st.length + 1 ≤ 1000
        omega
      clear nz n8 n7 n6 hD7 hD8 k7 k8 c1 c2
      rintro σ H9 ⟨z, rfl, n9, nz⟩
      refine ⟨fun σ' H' => ∃ z, σ' = [some (.ref d), some (.int (n : Int)), some (.str ltr), some (.ref W), some (.int way), some (.str st), some (.ref F), some (.int (0 + (i : Int))), some (.int (a : Int)), some (.str z), none, none] ∧ NSt H H' d g F W ts ∧ Nm z, ?_, ?_⟩
      · refine ⟨_, rfl, rfl, _, rfl, ite2 (fun c => ?_) (fun c => ⟨z, rfl, n9, nz⟩)⟩
        refine ⟨_, rfl, _, rfl, d, g, 8, rfl, n9.dk, by decide, by decide +kernel, fun r H10 r0 r1 hD10 k10 => ?_⟩
        obtain ⟨r, rfl⟩ := Int.eq_ofNat_of_zero_le r0
        have n10 := n9.draw hD10 k10
        have hr8 : r < wrd.length := by show r < 8; omega
        exact ⟨W, _, _, V.str wrd[r], rfl, rfl, .of n10.eW, atI_nat (by rw [List.getElem?_map, List.getElem?_eq_getElem hr8]; rfl), _, rfl, n10, wrd_nm _ (List.getElem_mem hr8)⟩
      clear nz n9
      clear z H9
      rintro σ H9 ⟨z, rfl, n9, nz⟩
      refine ⟨fun σ' H' => ∃ z, σ' = [some (.ref d), some (.int (n : Int)), some (.str ltr), some (.ref W), some (.int way), some (.str st), some (.ref F), some (.int (0 + (i : Int))), some (.int (a : Int)), some (.str z), none, none] ∧ NSt H H' d g F W ts ∧ Nm z, ?_, ?_⟩
      · refine ⟨_, rfl, rfl, _, rfl, ite2 (fun c => ?_) (fun c => ⟨z, rfl, n9, nz⟩)⟩
        refine ⟨⟨_, rfl⟩, _, rfl, d, g, 8, rfl, n9.dk, by decide, by decide +kernel, fun m2 H10 m20 m21 hD10 k10 => ⟨_, _, rfl, rfl, _, rfl, by omega, by omega, fun J2 hJ2 => ?_⟩⟩
        have n10 := n9.draw hD10 k10
        refine lc_letters (n := (1 + m2).toNat) (by omega) rfl rfl (by decide) (by decide) n10.dk hJ2 fun H11 cs2 hD11 k11 eJ2 cl2 low2 => ?_
        refine ⟨_, J2, cs2.map one, rfl, rfl, .inl (.of eJ2), join_room cs2 (by omega), _, rfl, n10.draw hD11 k11, ?_, ?_, ?_⟩
        · rw [len_l, l_join]; omega
        · rw [len_l, l_join]; omega
        · intro c hc
          rw [l_join] at hc
          exact low2 c hc
      clear nz n9
      clear z H9
      rintro σ H9 ⟨z, rfl, n9, nz⟩
      refine ⟨fun σ' H' => ∃ z, σ' = [some (.ref d), some (.int (n : Int)), some (.str ltr), some (.ref W), some (.int way), some (.str st), some (.ref F), some (.int (0 + (i : Int))), some (.int (a : Int)), some (.str z), none, none] ∧ NSt H H' d g F W ts ∧ Nm z ∧ z ∉ ts, ?_, ?_⟩
      · refine ⟨_, rfl, _, rfl, F, _, rfl, .inl (.of n9.eF), rfl, flat_strs _, _, rfl, ite2 (fun c => ?_) (fun c => ?_)⟩
        · refine ⟨_, rfl, ltr, rfl, fun D hDn => ?_⟩
          refine lc_str (fun i H' => H' D = some (.lst ((((ltr.cps.toList.take i).filter (fun c => decide (one c ∉ ts))).map one).map V.str)) ∧ Same H9 H') ⟨upd_same, same_upd hDn⟩ ?_ ?_
          · rintro i2 c2 H10 hc2 ⟨eD, sm⟩
            have hc3 : ltr.cps.toList[i2]? = some c2 := by simpa using hc2
            have i26 : i2 < 26 := by
              have := (List.getElem?_eq_some_iff.mp hc3).1
              rw [ltr_l] at this
              exact this
            have et : ltr.cps.toList.take (i2 + 1) = ltr.cps.toList.take i2 ++ [c2] := by rw [List.take_add_one, hc3]; rfl
            refine ⟨rfl, _, rfl, _, rfl, F, _, rfl, .inl (.of (sm _ _ n9.eF)), rfl, flat_strs _, _, rfl, ?_⟩
            have ei : inV (V.str ⟨#[c2]⟩) (ts.map V.str) = decide (one c2 ∈ ts) := inV_str (one c2) ts
            refine ite2 (fun c => ?_) (fun c => ?_)
            · have h1 : (!inV (V.str ⟨#[c2]⟩) (ts.map V.str)) = true := c
              rw [ei] at h1
              have h2 : one c2 ∉ ts := by simpa using h1
              refine ⟨_, rfl, _, eD, ?_, ?_, fun b o e => ?_⟩
              · rw [List.length_map, List.length_map]
                refine small1000 (Nat.le_trans (List.length_filter_le _ _) ?_)
                rw [List.length_take]
                omega
              · rw [upd_same, et, List.filter_append, List.map_append, List.map_append]
                have : List.filter (fun c => decide (one c ∉ ts)) [c2] = [c2] := by rw [List.filter_cons_of_pos (by simpa using h2)]; rfl
                rw [this]
                rfl
              · rw [upd_ne (ne_of_none e hDn)]
                exact sm b o e
            · have h1 : ¬ (!inV (V.str ⟨#[c2]⟩) (ts.map V.str)) = true := c
              rw [ei] at h1
              have h2 : one c2 ∈ ts := by simpa using h1
              refine ⟨?_, sm⟩
              rw [eD, et, List.filter_append]
              have : List.filter (fun c => decide (one c ∉ ts)) [c2] = [] := by rw [List.filter_cons_of_neg (by simpa using h2)]; rfl
              rw [this, List.append_nil]
          · rintro H10 ⟨eD, sm⟩
            obtain ⟨c0, r0, e0⟩ := ltr_free (ts := ts) (by omega)
            have e26 : ltr.cps.size = ltr.cps.toList.length := by simp
            rw [e26, List.take_length, e0] at eD
            have hm : c0 ∈ ltr.cps.toList.filter (fun c => decide (one c ∉ ts)) := by rw [e0]; exact List.mem_cons_self
            obtain ⟨hm1, hm2⟩ := List.mem_filter.mp hm
            have hb : 97 ≤ c0 ∧ c0 ≤ 122 := by
              rw [ltr_l] at hm1
              simp only [List.mem_cons, List.not_mem_nil, or_false] at hm1
              omega
            exact ⟨D, _, _, V.str (one c0), rfl, rfl, .of eD, atI_nat (j := 0) rfl, one c0, rfl, n9.draw (n9.dk.same sm) (Same.kd sm), nm_one hb.1 hb.2, by simpa using hm2⟩
        · have h1 : ¬ inV (V.str z) (ts.map V.str) = true := c
          rw [inV_str] at h1
          exact ⟨z, rfl, n9, nz, by simpa using h1⟩
      clear nz n9
      clear z H9
      rintro σ H9 ⟨z, rfl, n9, nz, nin⟩
      refine ⟨_, rfl, .inl ⟨rfl, _, .of n9.eF⟩, _, rfl, F, _, _, rfl, rfl, n9.eF, ?_, ts ++ [z], _, _, _, rfl, ⟨?_, ?_, ?_, ?_, n9.fF, n9.nF, n9.nW⟩, ?_, ?_, ?_⟩
      · rw [List.length_map]; exact small1000 (by omega)
      · obtain ⟨gs, b, m, h1, h2, h3⟩ := n9.dk
        exact ⟨gs, b, m, by rw [upd_ne n9.nF.1.symm]; exact h1, by rw [upd_ne n9.nF.2.symm]; exact h2, h3⟩
      · intro b o e h1 h2
        rw [upd_ne (ne_of_none e n9.fF)]
        exact n9.kd b o e h1 h2
      · rw [upd_same, List.map_append]; rfl
      · rw [upd_ne WF]; exact n9.eW
      · rw [List.length_append, tl]; rfl
      · intro y hy
        rcases List.mem_append.mp hy with h | h
        · exact tn y h
        · rw [List.mem_singleton.mp h]; exact nz
      · exact List.nodup_append.mpr ⟨td, List.nodup_cons.mpr ⟨List.not_mem_nil, List.nodup_nil⟩, fun x hx y hy e => nin (by rw [← List.mem_singleton.mp hy, ← e]; exact hx)⟩
    · rintro σ H6 ⟨ts, x7, x8, x9, rfl, n6, tl, tn, td⟩
      exact ⟨_, rfl, k F ts H6 n6.dk n6.kd n6.fF n6.eF n6.nF.1 n6.nF.2 (by rw [tl]; omega) tn td⟩
/-! ### rules, data, orders -/
/-- tuples stand -/
def Tk (H H' : Hp) : Prop := ∀ b xs, H b = some (.tup xs) → H' b = some (.tup xs)
theorem Same.tk {H H' : Hp} (s : Same H H') : Tk H H' := fun b _ h => s b _ h
theorem Kd.tk {d g : Addr} {H H' : Hp} (k : Kd d g H H') (hD : Deck H d g) : Tk H H' := fun b xs h => by
  obtain ⟨gs, a, m, h1, h2, _⟩ := hD
  exact k b _ h (ne_of h h1 (by intro z; cases z)) (ne_of h h2 (by intro z; cases z))
theorem Tk.trans {H H1 H2 : Hp} (a : Tk H H1) (b : Tk H1 H2) : Tk H H2 := fun x xs h => b x xs (a x xs h)
theorem tk_mut {H : Hp} {p : Addr} {xs : List V} {o : HO} (h : H p = some (.lst xs)) : Tk H (upd H p o) := fun b ys e => by
  rw [upd_ne (ne_of e h (by intro z; cases z))]
  exact e
inductive Rls (ts : List Str) (H : Hp) : List Addr → List (List Str) → Prop
  | nil : Rls ts H [] []
  | cons {a : Addr} {l : List Str} {as : List Addr} {ls : List (List Str)} : H a = some (.tup (l.map V.str)) → RuleOk ts l → Rls ts H as ls → Rls ts H (a :: as) (l :: ls)
theorem Rls.keep {ts : List Str} {H H' : Hp} (k : Tk H H') : ∀ {as : List Addr} {ls : List (List Str)}, Rls ts H as ls → Rls ts H' as ls
  | _, _, .nil => .nil
  | _, _, .cons h n r => .cons (k _ _ h) n (r.keep k)
theorem Rls.snoc {ts : List Str} {H : Hp} {a : Addr} {l : List Str} (h : H a = some (.tup (l.map V.str))) (n : RuleOk ts l) : ∀ {as : List Addr} {ls : List (List Str)}, Rls ts H as ls → Rls ts H (as ++ [a]) (ls ++ [l])
  | _, _, .nil => .cons h n .nil
  | _, _, .cons h1 n1 r => .cons h1 n1 (r.snoc h n)
theorem Rls.len {ts : List Str} {H : Hp} : ∀ {as : List Addr} {ls : List (List Str)}, Rls ts H as ls → as.length = ls.length
  | _, _, .nil => rfl
  | _, _, .cons _ _ r => congrArg Nat.succ r.len
theorem Rls.at {ts : List Str} {H : Hp} {a : Addr} : ∀ {as : List Addr} {ls : List (List Str)} {i : Nat}, Rls ts H as ls → as[i]? = some a → ∃ l, ls[i]? = some l ∧ H a = some (.tup (l.map V.str)) ∧ RuleOk ts l
  | _, _, _, .nil, e => by simp at e
  | _, _, 0, .cons h n r, e => by
    have := Option.some.inj e
    subst this
    exact ⟨_, rfl, h, n⟩
  | _, _, i + 1, .cons h n r, e => r.at (i := i) e
theorem Rls.set {ts : List Str} {H : Hp} {a : Addr} {l : List Str} (h : H a = some (.tup (l.map V.str))) (n : RuleOk ts l) : ∀ {as : List Addr} {ls : List (List Str)} (i : Nat), Rls ts H as ls → Rls ts H (as.set i a) (ls.set i l)
  | _, _, _, .nil => .nil
  | _, _, 0, .cons _ _ r => .cons h n r
  | _, _, i + 1, .cons h1 n1 r => .cons h1 n1 (Rls.set h n i r)
theorem Rls.mem {ts : List Str} {H : Hp} {as : List Addr} {ls : List (List Str)} (h : Rls ts H as ls) {a : Addr} (ha : a ∈ as) : ∃ l, H a = some (.tup (l.map V.str)) ∧ RuleOk ts l := by
  obtain ⟨i, hi, e⟩ := List.mem_iff_getElem.mp ha
  obtain ⟨l, _, h2, h3⟩ := h.at (i := i) (by rw [List.getElem?_eq_getElem hi, e])
  exact ⟨l, h2, h3⟩
/-- what stands from H0 on, all but the deck -/
structure Std (H0 H' : Hp) (d g : Addr) : Prop where
  dk : Deck H' d g
  kd : Kd d g H0 H'
theorem Std.refl {H : Hp} {d g : Addr} (h : Deck H d g) : Std H H d g := ⟨h, Kd.refl H⟩
theorem Std.draw {H0 H1 H2 : Hp} {d g : Addr} (s : Std H0 H1 d g) (h : Deck H2 d g) (k : Kd d g H1 H2) : Std H0 H2 d g := ⟨h, s.kd.trans k⟩
theorem Std.trans {H0 H1 H2 : Hp} {d g : Addr} (s : Std H0 H1 d g) (t : Std H1 H2 d g) : Std H0 H2 d g := ⟨t.dk, s.kd.trans t.kd⟩
theorem Std.new {H0 H1 : Hp} {d g p : Addr} {o : HO} (s : Std H0 H1 d g) (hp : H1 p = none) : Std H0 (upd H1 p o) d g := ⟨s.dk.same (same_upd hp), s.kd.trans (Same.kd (same_upd hp))⟩
theorem Std.free {H0 H1 : Hp} {d g p : Addr} (s : Std H0 H1 d g) (hp : H1 p = none) : H0 p = none := s.kd.free hp (s.dk.new hp).1 (s.dk.new hp).2
theorem Std.mut {H0 H1 : Hp} {d g p : Addr} {o : HO} (s : Std H0 H1 d g) (hp : H0 p = none) (n1 : p ≠ d) (n2 : p ≠ g) : Std H0 (upd H1 p o) d g := by
  refine ⟨?_, fun b u e h1 h2 => ?_⟩
  · obtain ⟨gs, a, m, h1, h2, h3⟩ := s.dk
    exact ⟨gs, a, m, by rw [upd_ne n1.symm]; exact h1, by rw [upd_ne n2.symm]; exact h2, h3⟩
  · rw [upd_ne (ne_of_none e hp)]
    exact s.kd b u e h1 h2
/-- a list apart from the deck -/
structure Lat (H : Hp) (d g p : Addr) (xs : List V) : Prop where
  at_ : H p = some (.lst xs)
  nd : p ≠ d
  ng : p ≠ g
theorem Lat.keep {H H' : Hp} {d g p : Addr} {xs : List V} (h : Lat H d g p xs) (k : Kd d g H H') : Lat H' d g p xs := ⟨k _ _ h.at_ h.nd h.ng, h.nd, h.ng⟩
theorem Lat.new {H : Hp} {d g p : Addr} {xs : List V} (h : Deck H d g) (hp : H p = none) : Lat (upd H p (.lst xs)) d g p xs := ⟨upd_same, (h.new hp).1, (h.new hp).2⟩
def kds : List Str := ["first", "last", "before", "upto", "same", "apart", "far", "next"]
theorem kds_two : ∀ z ∈ kds, z ∈ two ∨ z ∈ six := by decide +kernel
theorem kds_first : ∀ r : Nat, (h : r < kds.length) → r < 2 → kds[r] ∈ two := by decide +kernel
theorem two_in (z : Str) : inV (V.str z) [V.str ("first" : Str), V.str ("last" : Str)] = decide (z ∈ two) := inV_str z two
theorem turn_ne {n e p : Int} (hn : 2 ≤ n) (p0 : 0 ≤ p) (p1 : p < n) (e0 : 0 ≤ e) (e1 : e < n - 1) : 0 ≤ (p + 1 + e) % n ∧ (p + 1 + e) % n < n ∧ (p + 1 + e) % n ≠ p := by
  refine ⟨Int.emod_nonneg _ (by omega), Int.emod_lt_of_pos _ (by omega), ?_⟩
  by_cases h : p + 1 + e < n
  · rw [Int.emod_eq_of_lt (by omega) h]; omega
  · rw [← Int.sub_emod_right, Int.emod_eq_of_lt (by omega) (by omega)]; omega
def sp_rule : Sp := fun vs H Q _ => ∃ (d g t : Addr) (ts : List Str), vs = [.ref d, .ref t] ∧ Deck H d g ∧ Lat H d g t (ts.map V.str) ∧ TasksOk ts ∧
  ∀ (a : Addr) (l : List Str) (H' : Hp), Std H H' d g → H a = none → H' a = some (.tup (l.map V.str)) → RuleOk ts l → Q (.ref a) H'
theorem ok_law_rule (T : Tx K w mg) : FnOk P w K mg base CX0 2 T.f_law_rule T.d_law_rule ["deck", "task_list"] sp_rule := by
  refine T.F_law_rule.ok sc_law_rule (fun vs H Q E h => ?_) (fun cdv A outer s H vs Q E hr h => ?_)
  · obtain ⟨d, g, t, ts, rfl, _⟩ := h
    rfl
  · obtain ⟨d, g, t, ts, rfl, hD, lt, ok, k⟩ := h
    refine ⟨_,
    (pss_cons
      (ps_set (i := 2) sc_law_rule.nd rfl (.inl rfl) (pe_lst (pa_cons pe_str (pa_cons pe_str (pa_cons pe_str (pa_cons pe_str (pa_cons pe_str (pa_cons pe_str (pa_cons pe_str (pa_cons pe_str pa_nil))))))))))
    (pss_cons
      (ps_if (pt_cmpR op_eq (pe_callB call_len_seq (by rfl) T.m_len (by decide +kernel) (pa_cons (pv 1) pa_nil)) pe_int (nomark _))
        (pss_one
          (ps_ret (pe_tup (pa_cons (pe_ix ix_list (pv 2) (pe_call (ok_law_draw T) hr (by rfl) T.g_law_draw T.F_law_draw.kp T.b_law_draw .nil pass0 (pa_cons (pv 0) (pa_cons pe_int pa_nil))) (fun _ _ => rfl)) (pa_cons (pe_ix ix_list (pv 1) pe_int (fun _ _ => rfl)) pa_nil)))))
        pss_nil)
    (pss_cons
      (ps_set (i := 3) sc_law_rule.nd rfl (.inl rfl) (pe_ix ix_list (pv 2) (pe_call (ok_law_draw T) hr (by rfl) T.g_law_draw T.F_law_draw.kp T.b_law_draw .nil pass0 (pa_cons (pv 0) (pa_cons pe_int pa_nil))) (fun _ _ => rfl)))
    (pss_cons
      (ps_set (i := 4) sc_law_rule.nd rfl (.inl rfl) (pe_call (ok_law_draw T) hr (by rfl) T.g_law_draw T.F_law_draw.kp T.b_law_draw .nil pass0 (pa_cons (pv 0) (pa_cons (pe_callB call_len_seq (by rfl) T.m_len (by decide +kernel) (pa_cons (pv 1) pa_nil)) pa_nil))))
    (pss_cons
      (ps_if (pt_cmpR op_in_seq (pv 3) (pe_tup (pa_cons pe_str (pa_cons pe_str pa_nil))) (by rfl))
        (pss_one
          (ps_ret (pe_tup (pa_cons (pv 3) (pa_cons (pe_ix ix_list (pv 1) (pv 4) (fun _ _ => rfl)) pa_nil)))))
        pss_nil)
    (pss_one
      (ps_ret (pe_tup (pa_cons (pv 3) (pa_cons (pe_ix ix_list (pv 1) (pv 4) (fun _ _ => rfl)) (pa_cons (pe_ix ix_list (pv 1) (pe_op op_mod (pe_op op_add (pe_op op_add (pv 4) pe_int) (pe_call (ok_law_draw T) hr (by rfl) T.g_law_draw T.F_law_draw.kp T.b_law_draw .nil pass0 (pa_cons (pv 0) (pa_cons (pe_op op_sub (pe_callB call_len_seq (by rfl) T.m_len (by decide +kernel) (pa_cons (pv 1) pa_nil)) pe_int) pa_nil)))) (pe_callB call_len_seq (by rfl) T.m_len (by decide +kernel) (pa_cons (pv 1) pa_nil))) (fun _ _ => rfl)) pa_nil))))))))))), ?_⟩
    have tne : 0 < ts.length := List.length_pos_iff.mpr ok.ne
    have tfew := ok.few
    refine ⟨(by show 8 ≤ sizeLine; decide), fun Z hZ => ?_⟩
    have s1 : Std H (upd H Z (.lst (kds.map V.str))) d g := (Std.refl hD).new hZ
    have lz : Lat (upd H Z (.lst (kds.map V.str))) d g Z (kds.map V.str) := Lat.new hD hZ
    have lt1 := lt.keep s1.kd
    refine ⟨_, rfl, t, _, rfl, .inl (.of lt1.at_), rfl, _, rfl, ite2 (fun c => ?_) (fun c => ?_)⟩
    · have c1 : ts.length = 1 := by
        have := V.int.inj (of_decide_eq_true c)
        rw [List.length_map] at this
        omega
      refine ⟨_, rfl, _, rfl, d, g, 2, rfl, s1.dk, by decide, by decide +kernel, fun r H2 r0 r1 hD2 k2 => ?_⟩
      obtain ⟨r, rfl⟩ := Int.eq_ofNat_of_zero_le r0
      have s2 := s1.draw hD2 k2
      have hr8 : r < kds.length := by show r < 8; omega
      refine ⟨Z, _, _, V.str kds[r], rfl, rfl, .of (lz.keep k2).at_, atI_nat (by rw [List.getElem?_map, List.getElem?_eq_getElem hr8]; rfl), _, rfl, t, _, _, V.str ts[0], rfl, rfl, .of (lt.keep s2.kd).at_, atI_nat (j := 0) (by rw [List.getElem?_map, List.getElem?_eq_getElem tne]; rfl), (by show 2 ≤ sizeLine; decide), fun a ha => ?_⟩
      exact k a [kds[r], ts[0]] _ (s2.new ha) (s2.free ha) upd_same (.inl ⟨_, _, kds_first r hr8 (by omega), List.getElem_mem tne, rfl⟩)
    · have c1 : ts.length ≠ 1 := fun z => c (decide_eq_true (by rw [List.length_map, z]; rfl))
      refine ⟨_, rfl, _, rfl, d, g, 8, rfl, s1.dk, by decide, by decide +kernel, fun r H2 r0 r1 hD2 k2 => ?_⟩
      obtain ⟨r, rfl⟩ := Int.eq_ofNat_of_zero_le r0
      have s2 := s1.draw hD2 k2
      have hr8 : r < kds.length := by show r < 8; omega
      refine ⟨Z, _, _, V.str kds[r], rfl, rfl, .of (lz.keep k2).at_, atI_nat (by rw [List.getElem?_map, List.getElem?_eq_getElem hr8]; rfl), ?_⟩
      have hk := kds_two _ (List.getElem_mem hr8)
      generalize kds[r] = kd at hk
      -- one
      have lt2 := lt.keep s2.kd
      refine ⟨_, rfl, _, rfl, t, _, rfl, .inl (.of lt2.at_), d, g, _, rfl, s2.dk, ?_, ?_, fun p H3 p0 p1 hD3 k3 => ?_⟩
      · rw [List.length_map]; omega
      · rw [List.length_map]; exact small_log (by omega)
      rw [List.length_map] at p1
      obtain ⟨p, rfl⟩ := Int.eq_ofNat_of_zero_le p0
      have s3 := s2.draw hD3 k3
      have hp : p < ts.length := by omega
      refine ⟨_, rfl, (by show 2 ≤ sizeLine; decide), fun U hU => ⟨U, _, rfl, .inr (.of upd_same), rfl, rfl, _, rfl, ?_⟩⟩
      have s4 : Std H (upd H3 U (.tup [.str ("first" : Str), .str ("last" : Str)])) d g := s3.new hU
      have lt4 := lt.keep s4.kd
      refine ite2 (fun c => ?_) (fun c => ?_)
      · have h1 : inV (V.str kd) [V.str ("first" : Str), V.str ("last" : Str)] = true := c
        rw [two_in] at h1
        refine ⟨_, rfl, _, rfl, _, rfl, t, _, _, V.str ts[p], rfl, rfl, .of lt4.at_, atI_nat (by rw [List.getElem?_map, List.getElem?_eq_getElem hp]; rfl), (by show 2 ≤ sizeLine; decide), fun a ha => ?_⟩
        exact k a [kd, ts[p]] _ (s4.new ha) (s4.free ha) upd_same (.inl ⟨_, _, of_decide_eq_true h1, List.getElem_mem hp, rfl⟩)
      · have h1 : ¬ inV (V.str kd) [V.str ("first" : Str), V.str ("last" : Str)] = true := c
        rw [two_in] at h1
        have h2 : kd ∉ two := fun z => h1 (decide_eq_true z)
        have h3 : kd ∈ six := hk.resolve_left h2
        refine ⟨_, rfl, _, rfl, _, rfl, t, _, _, V.str ts[p], rfl, rfl, .of lt4.at_, atI_nat (by rw [List.getElem?_map, List.getElem?_eq_getElem hp]; rfl), ?_⟩
        refine ⟨_, rfl, _, rfl, _, _, rfl, rfl, _, rfl, _, rfl, t, _, rfl, .inl (.of lt4.at_), _, _, rfl, rfl, d, g, _, rfl, s4.dk, ?_, ?_, fun e H5 e0 e1 hD5 k5 => ?_⟩
        · show (0 : Int) < ((ts.map V.str).length : Int) - 1
          rw [List.length_map]; omega
        · refine small_log ?_
          show (((ts.map V.str).length : Int) - 1).natAbs < 1024
          rw [List.length_map]; omega
        have e2 : e < ((ts.map V.str).length : Int) - 1 := e1
        rw [List.length_map] at e2
        have s5 := s4.draw hD5 k5
        have lt5 := lt.keep s5.kd
        obtain ⟨q0, q1, qn⟩ := turn_ne (n := ts.length) (e := e) (p := p) (by omega) (by omega) (by omega) e0 e2
        obtain ⟨q, hq⟩ := Int.eq_ofNat_of_zero_le q0
        have hql : q < ts.length := by omega
        refine ⟨_, _, rfl, rfl, _, rfl, t, _, rfl, .inl (.of lt5.at_), _, _, rfl, rfl, ?_, t, _, _, V.str ts[q], rfl, rfl, .of lt5.at_, at_of (j := q) ?_ (by rw [List.getElem?_map, List.getElem?_eq_getElem hql]; rfl), (by show 3 ≤ sizeLine; decide), fun a ha => ?_⟩
        · show (0 : Int) < ((ts.map V.str).length : Int)
          rw [List.length_map]; omega
        · show ((p : Int) + 1 + e) % ((ts.map V.str).length : Int) = (q : Int)
          rw [List.length_map]; exact hq
        refine k a [kd, ts[p], ts[q]] _ (s5.new ha) (s5.free ha) upd_same (.inr ⟨_, _, _, h3, List.getElem_mem hp, List.getElem_mem hql, fun z => ?_, rfl⟩)
        have := (List.getElem_inj ok.nd).mp z
        omega
def sp_order : Sp := fun vs H Q _ => ∃ (d g : Addr) (n : Nat), vs = [.ref d, .int n] ∧ Deck H d g ∧ n ≤ 1000 ∧
  ∀ (p : Addr) (os : List Int) (H' : Hp), Std H H' d g → H p = none → H' p = some (.lst (os.map V.int)) → p ≠ d → p ≠ g → (∀ o ∈ os, 0 ≤ o ∧ o < n) → os.length = n → os.Nodup → Q (.ref p) H'
theorem erase_map : ∀ (l : List Int) (j : Nat), (l.map V.int).eraseIdx j = (l.eraseIdx j).map V.int
  | [], _ => rfl
  | _ :: _, 0 => rfl
  | a :: r, j + 1 => by
    show V.int a :: (r.map V.int).eraseIdx j = V.int a :: (r.eraseIdx j).map V.int
    rw [erase_map r j]
def rng (n : Nat) : List Int := (List.range n).map Int.ofNat
theorem rng_v (n : Nat) : rgV 0 (n : Int) = (rng n).map V.int := by
  unfold rgV rng
  rw [List.map_map, show ((n : Int) - 0).toNat = n by omega]
  refine List.map_congr_left fun i _ => ?_
  show V.int (0 + (i : Int)) = V.int (i : Int)
  rw [Int.zero_add]
theorem rng_in {n : Nat} {o : Int} (h : o ∈ rng n) : 0 ≤ o ∧ o < n := by
  obtain ⟨i, hi, rfl⟩ := List.mem_map.mp h
  have := List.mem_range.mp hi
  have e : Int.ofNat i = (i : Int) := rfl
  omega
theorem rng_nd (n : Nat) : (rng n).Nodup := by
  unfold rng List.Nodup
  rw [List.pairwise_map]
  exact (List.nodup_range (n := n)).imp fun h z => h (Int.ofNat.inj z)
theorem rng_len (n : Nat) : (rng n).length = n := by
  unfold rng
  rw [List.length_map, List.length_range]
theorem log20 {m : Int} (h : m.natAbs < 1048576) : m.natAbs.log2 < 9000 := by
  have h1 : m.natAbs.log2 < 20 := PySem.Flt.log2_lt_of (by decide) h
  omega
theorem perm_erase : ∀ (l : List Int) (j : Nat) (h : j < l.length), l.Perm (l[j] :: l.eraseIdx j)
  | a :: r, 0, _ => List.Perm.refl _
  | a :: r, j + 1, h => by
    have ih := perm_erase r j (Nat.lt_of_succ_lt_succ h)
    exact (List.Perm.cons a ih).trans (List.Perm.swap _ _ _)
theorem ok_law_order (T : Tx K w mg) : FnOk P w K mg base CX0 2 T.f_law_order T.d_law_order ["deck", "many"] sp_order := by
  refine T.F_law_order.ok sc_law_order (fun vs H Q E h => ?_) (fun cdv A outer s H vs Q E hr h => ?_)
  · obtain ⟨d, g, n, rfl, _⟩ := h
    rfl
  · obtain ⟨d, g, n, rfl, hD, hn, k⟩ := h
    refine ⟨_,
    (pss_cons
      (ps_set (i := 2) sc_law_order.nd rfl (.inr rfl) (pe_listRg rfl (by rfl) T.m_list (prg_1 (by rfl) T.m_range (pv 1))))
    (pss_one
      (ps_ret (pe_lc (own := [("k", 3)]) (g := gName 3) rfl sc_law_order.nd (pi_range1 (by rfl) T.m_range (pa_cons (pv 1) pa_nil)) (blkOk_by (N := ["deck", "many", "left", "k"]) (sc := defScope s_law_order) (own := [("k", 3)]) (by decide +kernel)) (fun _ _ _ _ _ => (pg_name (i := 3) sc_law_order.nd rfl (.inl rfl))) (fun _ _ _ _ _ => pts_nil) (fun _ _ _ _ _ => (pe_bmK (K := K) rfl PySem.F.plainAttrs_list PySem.F.slot_list_pop PySem.F.type_list_pop mt_popAt (pv 2) (pa_cons (pe_call (ok_law_draw T) hr (by rfl) T.g_law_draw T.F_law_draw.kp T.b_law_draw .nil pass0 (pa_cons (pv 0) (pa_cons (pe_callB (id := "len") (r := rLen K) call_len_seq (by rfl) T.m_len (by decide +kernel) (pa_cons (pv 2) pa_nil)) pa_nil))) pa_nil))))))), ?_⟩
    refine ⟨_, rfl, _, rfl, ?_, fun L hL => ?_⟩
    · exact RgOk.of_le (by omega) (by omega) (by omega) (by omega)
    rw [rng_v]
    have dL := hD.new hL
    have s1 : Std H (upd H L (.lst ((rng n).map V.int))) d g := (Std.refl hD).new hL
    have e1 : (upd H L (.lst ((rng n).map V.int))) L = some (.lst ((rng n).map V.int)) := upd_same
    generalize upd H L (.lst ((rng n).map V.int)) = H1 at s1 e1
    refine ⟨_, rfl, _, rfl, by omega, by omega, fun D hDn => ?_⟩
    have dD := s1.dk.new hDn
    have LD : L ≠ D := ne_of_none e1 hDn
    have fD := s1.free hDn
    refine lc_range (lo := 0) (n := ((n : Int)).toNat) (fun i H' => ∃ os ls : List Int, Std H H' d g ∧ H' L = some (.lst (ls.map V.int)) ∧ H' D = some (.lst (os.map V.int)) ∧ (os ++ ls).Nodup ∧ (∀ o ∈ os ++ ls, 0 ≤ o ∧ o < n) ∧ os.length = i ∧ ls.length + i = n) ?_ ?_ ?_
    · exact ⟨[], rng n, s1.new hDn, by rw [upd_ne LD]; exact e1, upd_same, rng_nd n, fun o ho => rng_in ho, rfl, rng_len n⟩
    · rintro i H2 hi ⟨os, ls, s2, eL, eD, nd, hin, ol, ll⟩
      have hi2 : i < n := by
        have : i < ((n : Int)).toNat := hi
        omega
      refine ⟨rfl, _, rfl, .inl ⟨rfl, _, .of eL⟩, _, rfl, _, rfl, L, _, rfl, .inl (.of eL), d, g, _, rfl, s2.dk, ?_, ?_, fun r H3 r0 r1 hD3 k3 => ?_⟩
      · show (0 : Int) < ((ls.map V.int).length : Int)
        rw [List.length_map]; omega
      · refine log20 ?_
        show (((ls.map V.int).length : Nat) : Int).natAbs < 1048576
        rw [List.length_map]; omega
      have r2 : r < ((ls.map V.int).length : Int) := r1
      rw [List.length_map] at r2
      obtain ⟨j, rfl⟩ := Int.eq_ofNat_of_zero_le r0
      have hj : j < ls.length := by omega
      have s3 := s2.draw hD3 k3
      have eL3 := k3 _ _ eL dL.1 dL.2
      have eD3 := k3 _ _ eD dD.1 dD.2
      have pm : (os ++ ls).Perm ((os ++ [ls[j]]) ++ ls.eraseIdx j) := by
        rw [List.append_assoc]
        exact List.Perm.append_left os (perm_erase ls j hj)
      refine ⟨L, ls.map V.int, j, j, V.int ls[j], rfl, rfl, eL3, by omega, by omega, (ixN_seq (ixN_nat (by rw [List.length_map]; exact hj))).1, by rw [List.getElem?_map, List.getElem?_eq_getElem hj]; rfl, os.map V.int, ?_, ?_, os ++ [ls[j]], ls.eraseIdx j, (s3.mut hL dL.1 dL.2).mut fD dD.1 dD.2, ?_, ?_, pm.nodup_iff.mp nd, fun o ho => hin o (pm.mem_iff.mpr ho), ?_, ?_⟩
      · rw [upd_ne LD.symm]; exact eD3
      · rw [List.length_map, ol]; exact small1000 (by omega)
      · rw [upd_ne LD, upd_same, erase_map]
      · rw [upd_same, List.map_append]; rfl
      · rw [List.length_append, ol]; rfl
      · rw [List.length_eraseIdx_of_lt hj]; omega
    · rintro H2 ⟨os, ls, s2, eL, eD, nd, hin, ol, ll⟩
      exact k D os H2 s2 fD eD dD.1 dD.2 (fun o ho => hin o (List.mem_append_left _ ho)) (by rw [ol]; omega) (List.nodup_append.mp nd).1
theorem ixN_last {n : Nat} (h : 0 < n) : ixN n (-1) = some (n - 1) := by
  unfold ixN
  rw [if_neg (by decide), if_pos (by omega)]
  congr 1
  omega
def sp_data : Sp := fun vs H Q _ => ∃ (d g : Addr) (mt mr : Int), vs = [.ref d, .int mt, .int mr] ∧ Deck H d g ∧ 0 < mt ∧ mt ≤ 12 ∧ 0 ≤ mr ∧ mr ≤ 100 ∧
  ∀ (u t r : Addr) (ts : List Str) (as : List Addr) (ls : List (List Str)) (H' : Hp), Std H H' d g → H t = none → H r = none → H' u = some (.tup [.ref t, .ref r]) → Lat H' d g t (ts.map V.str) → Lat H' d g r (as.map V.ref) → t ≠ r → Rls ts H' as ls → TasksOk ts → ts.length ≤ 12 → as.length ≤ mr → Q (.ref u) H'
theorem ok_law_data (T : Tx K w mg) : FnOk P w K mg base CX0 3 T.f_law_data T.d_law_data ["deck", "most_tasks", "most_rules"] sp_data := by
  refine T.F_law_data.ok sc_law_data (fun vs H Q E h => ?_) (fun cdv A outer s H vs Q E hr h => ?_)
  · obtain ⟨d, g, mt, mr, rfl, _⟩ := h
    rfl
  · obtain ⟨d, g, mt, mr, rfl, hD, t0, t1, r0, r1, k⟩ := h
    refine ⟨_,
    (pss_cons
      (ps_set (i := 3) sc_law_data.nd rfl (.inr rfl) (pe_call (ok_law_names T) hr (by rfl) T.g_law_names T.F_law_names.kp T.b_law_names .nil pass0 (pa_cons (pv 0) (pa_cons (pe_op op_add pe_int (pe_call (ok_law_draw T) (hr.mono (by decide)) (by rfl) T.g_law_draw T.F_law_draw.kp T.b_law_draw .nil pass0 (pa_cons (pv 0) (pa_cons (pv 1) pa_nil)))) pa_nil))))
    (pss_cons
      (ps_setLc (i := 4) (own := [("k", 5)]) (g := gName 5) rfl sc_law_data.nd rfl rfl (sw_true rfl rfl rfl (by decide +kernel)) (pi_range1 (by rfl) T.m_range (pa_cons (pe_call (ok_law_draw T) (hr.mono (by decide)) (by rfl) T.g_law_draw T.F_law_draw.kp T.b_law_draw .nil pass0 (pa_cons (pv 0) (pa_cons (pe_op op_add (pv 2) pe_int) pa_nil))) pa_nil)) (blkOk_by (N := ["deck", "most_tasks", "most_rules", "task_list", "rule_list", "k"]) (sc := defScope s_law_data) (own := [("k", 5)]) (by decide +kernel)) (fun _ _ _ _ _ => (pg_name (i := 5) sc_law_data.nd rfl (.inl rfl))) (fun _ _ _ _ _ => pts_nil) (fun _ _ _ _ _ => (pe_call (ok_law_rule T) hr (by rfl) T.g_law_rule T.F_law_rule.kp T.b_law_rule .nil pass0 (pa_cons (pv 0) (pa_cons (pv 3) pa_nil)))))
    (C8.pss_cut
      (ps_if (PW.pt (pw_and (pt_cmpR op_gt (pe_callB call_len_seq (by rfl) T.m_len (by decide +kernel) (pa_cons (pv 4) pa_nil)) pe_int (nomark _)) (pw_and1 (pt_cmpR op_eq (pe_call (ok_law_draw T) (hr.mono (by decide)) (by rfl) T.g_law_draw T.F_law_draw.kp T.b_law_draw .nil pass0 (pa_cons (pv 0) (pa_cons pe_int pa_nil))) pe_int (nomark _)))))
        (pss_one
          (ps_asg (pe_ix ix_list (pv 4) pe_int (fun _ _ => rfl)) (pg_sub (pv 4) (pe_un un_neg pe_int) set_list)))
        pss_nil)
    (pss_one
      (ps_ret (pe_tup (pa_cons (pv 3) (pa_cons (pv 4) pa_nil)))))))), ?_⟩
    refine ⟨_, rfl, _, rfl, _, rfl, d, g, mt, rfl, hD, t0, small_log (by omega), fun m H1 m0 m1 hD1 k1 => ?_⟩
    obtain ⟨m, rfl⟩ := Int.eq_ofNat_of_zero_le m0
    refine ⟨_, _, rfl, rfl, d, g, 1 + m, rfl, hD1, by omega, by omega, fun t ts H2 hD2 k2 ft et n1 n2 tl tn td => ?_⟩
    have s2 : Std H H2 d g := ((Std.refl hD).draw hD1 k1).draw hD2 k2
    have lt : Lat H2 d g t (ts.map V.str) := ⟨et, n1, n2⟩
    have ok : TasksOk ts := ⟨fun z => by rw [z] at tl; simp at tl; omega, tn, td, by omega⟩
    have ft0 : H t = none := ((Std.refl hD).draw hD1 k1).free ft
    clear hD1 k1 hD2 k2 ft et n1 n2
    -- rule_list
    refine ⟨_, rfl, _, rfl, _, _, rfl, rfl, d, g, _, rfl, s2.dk, ?_, ?_, fun n H3 n0 n1 hD3 k3 => ⟨_, rfl, ?_, ?_, fun R hR => ?_⟩⟩
    · show (0 : Int) < mr + 1
      omega
    · exact small_log (by show (mr + 1).natAbs < 1024; omega)
    · have : n < mr + 1 := n1
      omega
    · have : n < mr + 1 := n1
      omega
    have n2 : n < mr + 1 := n1
    have s3 := s2.draw hD3 k3
    have lt3 := lt.keep k3
    have dR := s3.dk.new hR
    have fR := s3.free hR
    have tR : t ≠ R := ne_of_none lt3.at_ hR
    refine lc_range (lo := 0) (n := n.toNat) (fun i H' => ∃ as ls, Std H3 H' d g ∧ Rls ts H' as ls ∧ as.length = i ∧ H' R = some (.lst (as.map V.ref))) ?_ ?_ ?_
    · exact ⟨[], [], (Std.refl s3.dk).new hR, .nil, rfl, upd_same⟩
    · rintro i H4 hi ⟨as, ls, s4, rl, al, eR⟩
      refine ⟨rfl, _, rfl, _, rfl, d, g, t, ts, rfl, s4.dk, lt3.keep s4.kd, ok, fun a l H5 s5 fa ea rok => ?_⟩
      have eR5 := s5.kd _ _ eR dR.1 dR.2
      have s35 := s4.trans s5
      refine ⟨as.map V.ref, eR5, ?_, as ++ [a], ls ++ [l], s35.mut hR dR.1 dR.2, ?_, ?_, ?_⟩
      · rw [List.length_map, al]; exact small1000 (by omega)
      · exact ((rl.keep (Kd.tk s5.kd s4.dk)).snoc ea rok).keep (tk_mut eR5)
      · rw [List.length_append, al]; rfl
      · rw [upd_same, List.map_append]; rfl
    · rintro H4 ⟨as, ls, s4, rl, al, eR⟩
      have lt4 := lt3.keep s4.kd
      refine ⟨fun σ' H' => ∃ as ls, σ' = [some (.ref d), some (.int mt), some (.int mr), some (.ref t), some (.ref R), none] ∧ Std H H' d g ∧ Rls ts H' as ls ∧ as.length = n.toNat ∧ H' R = some (.lst (as.map V.ref)) ∧ Lat H' d g t (ts.map V.str), ?_, ?_⟩
      · have s04 := s3.trans s4
        refine ⟨_, rfl, R, _, rfl, .inl (.of eR), _, _, rfl, rfl, _, rfl, ite2 (fun c => ?_) (fun c => ⟨as, ls, rfl, s04, rl, al, eR, lt4⟩)⟩
        have c1 : (1 : Int) < ((as.map V.ref).length : Int) := of_decide_eq_true c
        rw [List.length_map] at c1
        refine ⟨_, rfl, d, g, 4, rfl, s04.dk, by decide, by decide +kernel, fun e H5 e0 e1 hD5 k5 => ⟨rfl, _, rfl, ?_⟩⟩
        have s05 := s04.draw hD5 k5
        have eR5 := k5 _ _ eR dR.1 dR.2
        have rl5 := rl.keep (Kd.tk k5 s04.dk)
        refine ite2 (fun c => ?_) (fun c => ⟨as, ls, rfl, s05, rl5, al, eR5, lt4.keep k5⟩)
        have h0 : as[0]? = some as[0] := List.getElem?_eq_getElem (by omega)
        obtain ⟨l, hl, ea, rok⟩ := rl5.at h0
        refine ⟨_, rfl, R, _, _, V.ref as[0], rfl, rfl, .of eR5, atI_nat (j := 0) (by rw [List.getElem?_map, h0]; rfl), _, rfl, _, rfl, R, as.map V.ref, _, as.length - 1, rfl, rfl, eR5, ?_, as.set (as.length - 1) as[0], ls.set (as.length - 1) l, rfl, s05.mut fR dR.1 dR.2, ?_, ?_, ?_, ?_⟩
        · have := ixN_last (n := (as.map V.ref).length) (by rw [List.length_map]; omega)
          rw [List.length_map] at this ⊢
          exact this
        · exact (Rls.set ea rok _ rl5).keep (tk_mut eR5)
        · rw [List.length_set, al]
        · rw [upd_same, List.map_set]
        · exact ⟨by rw [upd_ne tR]; exact (lt4.keep k5).at_, lt4.nd, lt4.ng⟩
      · rintro σ H5 ⟨as, ls, rfl, s5, rl, al, eR, lt5⟩
        refine ⟨_, rfl, _, rfl, (by show 2 ≤ sizeLine; decide), fun u hu => ?_⟩
        have su := same_upd (o := .tup [.ref t, .ref R]) hu
        exact k u t R ts as ls _ (s5.new hu) ft0 fR upd_same (lt5.keep (Same.kd su)) ⟨su _ _ eR, dR.1, dR.2⟩ tR (rl.keep (Same.tk su)) ok (by omega) (by omega)
/-! ### data as wholes -/
theorem nm_ok {z : Str} (h : Nm z) : PyData.canLay0 (.str z) = true := by
  simp only [PyData.canLay0, PyData.strOk, Array.all_eq_true, decide_eq_true_eq]
  intro i hi
  have hm : z.cps[i] ∈ z.cps.toList := by simp
  have := h.low _ hm
  omega
theorem kd_ok : ∀ z ∈ two ++ six, PyData.canLay0 (.str z) = true := by decide +kernel
theorem rule_ok {ts l : List Str} (ok : TasksOk ts) (h : RuleOk ts l) : ∀ z ∈ l, PyData.canLay0 (.str z) = true := by
  rcases h with ⟨k, x, h1, h2, rfl⟩ | ⟨k, x, y, h1, h2, h3, _, rfl⟩
  · intro z hz
    simp only [List.mem_cons, List.not_mem_nil, or_false] at hz
    rcases hz with rfl | rfl
    · exact kd_ok _ (List.mem_append_left _ h1)
    · exact nm_ok (ok.nm _ h2)
  · intro z hz
    simp only [List.mem_cons, List.not_mem_nil, or_false] at hz
    rcases hz with rfl | rfl | rfl
    · exact kd_ok _ (List.mem_append_right _ h1)
    · exact nm_ok (ok.nm _ h2)
    · exact nm_ok (ok.nm _ h3)
theorem lay_strs : ∀ {ss : List Str}, (∀ z ∈ ss, PyData.canLay0 (.str z) = true) → PyData.canLayAll0 (ss.map PyData.str) = true
  | [], _ => rfl
  | a :: r, h => by
    show (PyData.canLay0 (.str a) && PyData.canLayAll0 (r.map PyData.str)) = true
    rw [h a List.mem_cons_self, lay_strs fun z hz => h z (List.mem_cons_of_mem _ hz)]
    rfl
theorem depth_strs : ∀ (ss : List Str), PyData.depthAll (ss.map PyData.str) ≤ 1
  | [] => by simp [PyData.depthAll]
  | a :: r => by
    have := depth_strs r
    simp only [List.map_cons, PyData.depthAll, PyData.depth]
    omega
theorem dp_strs {H : Hp} : ∀ {ss : List Str}, DpAll K H (ss.map V.str) (ss.map PyData.str)
  | [] => .nil
  | _ :: _ => .cons (.str _) dp_strs
def tdata (ts : List Str) : PyData := .list (ts.map PyData.str)
def rdata (l : List Str) : PyData := .tuple (l.map PyData.str)
def rsdata (ls : List (List Str)) : PyData := .list (ls.map rdata)
theorem tdata_ok {ts : List Str} (ok : TasksOk ts) : SeqAt.shaped (tdata ts) = true := by
  unfold SeqAt.shaped
  rw [Bool.and_eq_true]
  have h := depth_strs ts
  exact ⟨lay_strs fun z hz => nm_ok (ok.nm z hz), decide_eq_true (by simp only [tdata, PyData.depth]; omega)⟩
theorem lay_rules {ts : List Str} (ok : TasksOk ts) : ∀ {ls : List (List Str)}, (∀ l ∈ ls, RuleOk ts l) → PyData.canLayAll0 (ls.map rdata) = true
  | [], _ => rfl
  | l :: r, h => by
    show (PyData.canLayAll0 (l.map PyData.str) && PyData.canLayAll0 (r.map rdata)) = true
    rw [lay_strs (rule_ok ok (h l List.mem_cons_self)), lay_rules ok fun z hz => h z (List.mem_cons_of_mem _ hz)]
    rfl
theorem depth_rules : ∀ (ls : List (List Str)), PyData.depthAll (ls.map rdata) ≤ 2
  | [] => by simp [PyData.depthAll]
  | l :: r => by
    have h1 := depth_rules r
    have h2 := depth_strs l
    show PyData.depthAll (PyData.tuple (l.map PyData.str) :: r.map rdata) ≤ 2
    simp only [PyData.depthAll, PyData.depth]
    omega
theorem rsdata_ok {ts : List Str} (ok : TasksOk ts) {ls : List (List Str)} (h : ∀ l ∈ ls, RuleOk ts l) : SeqAt.shaped (rsdata ls) = true := by
  unfold SeqAt.shaped
  rw [Bool.and_eq_true]
  have h2 := depth_rules ls
  exact ⟨lay_rules ok h, decide_eq_true (by simp only [rsdata, PyData.depth]; omega)⟩
theorem Rls.dp {ts : List Str} {H : Hp} : ∀ {as : List Addr} {ls : List (List Str)}, Rls ts H as ls → DpAll K H (as.map V.ref) (ls.map rdata)
  | _, _, .nil => .nil
  | _, _, .cons h _ r => .cons (.tup (.of h) dp_strs) r.dp
theorem Rls.all {ts : List Str} {H : Hp} : ∀ {as : List Addr} {ls : List (List Str)}, Rls ts H as ls → ∀ l ∈ ls, RuleOk ts l
  | _, _, .nil, l, h => absurd h List.not_mem_nil
  | _, _, .cons _ n r, l, h => by
    rcases List.mem_cons.mp h with e | h
    · rw [e]; exact n
    · exact r.all l h
/-- the rules ls stand in the list r -/
def Rl (ts : List Str) (H : Hp) (d g r : Addr) (ls : List (List Str)) : Prop := ∃ as, Lat H d g r (as.map V.ref) ∧ Rls ts H as ls
theorem Rl.keep {ts : List Str} {H H' : Hp} {d g r : Addr} {ls : List (List Str)} (h : Rl ts H d g r ls) (hD : Deck H d g) (k : Kd d g H H') : Rl ts H' d g r ls := by
  obtain ⟨as, h1, h2⟩ := h
  exact ⟨as, h1.keep k, h2.keep (Kd.tk k hD)⟩
/-- a book stands at b -/
def Bk (C : Addr) (H : Hp) (d g b : Addr) (ts : List Str) (ls : List (List Str)) : Prop := ∃ dx t r, H b = some (.ins C dx (fl t r)) ∧ Lat H d g t (ts.map V.str) ∧ Rl ts H d g r ls
theorem Bk.keep {C : Addr} {ts : List Str} {H H' : Hp} {d g b : Addr} {ls : List (List Str)} (h : Bk C H d g b ts ls) (hD : Deck H d g) (k : Kd d g H H') : Bk C H' d g b ts ls := by
  obtain ⟨dx, t, r, h1, h2, h3⟩ := h
  obtain ⟨gs, a, m, e1, e2, _⟩ := id hD
  exact ⟨dx, t, r, k _ _ h1 (ne_of h1 e1 (by intro z; cases z)) (ne_of h1 e2 (by intro z; cases z)), h2.keep k, h3.keep hD k⟩
theorem small_log2 {m : Int} (h : m.natAbs < 2048) : m.natAbs.log2 < 9000 := by
  have h1 : m.natAbs.log2 < 11 := PySem.Flt.log2_lt_of (by decide) h
  omega
theorem iteEq {x : Bool} {A B : Prop} (h : x = true) (hB : B) : if (!x) = true then A else B := by
  rw [h]
  exact iteF hB
/-- a book at b: its data anywhere -/
def BkR (K : PySem.W.Frag) (C : Addr) (H : Hp) (b : Addr) (ts : List Str) (ls : List (List Str)) : Prop := ∃ (dx t r : Addr) (as : List Addr), H b = some (.ins C dx (fl t r)) ∧ H t = some (.lst (ts.map V.str)) ∧ H r = some (.lst (as.map V.ref)) ∧ Rls ts H as ls
theorem dS {a b : Str} (c : decide (V.str a = V.str b) = true) : a = b := V.str.inj (of_decide_eq_true c)
theorem dSN {a b : Str} (c : ¬ decide (V.str a = V.str b) = true) : ¬ a = b := fun z => c (decide_eq_true (congrArg V.str z))
theorem two_is {k : Str} (h : k ∈ two) : k = "first" ∨ k = "last" := by simpa [two] using h
theorem six_not {k : Str} (h : k ∈ six) : ¬ k = "first" ∧ ¬ k = "last" := by
  have h2 : ∀ k ∈ six, ¬ k = "first" ∧ ¬ k = "last" := by decide +kernel
  exact h2 k h
/-- the rule read from the last day -/
def ko (k : Str) : Str := if k = "first" then "last" else "first"
def turn : List Str → List Str
  | [k, x] => [ko k, x]
  | [k, x, y] => if k = "same" ∨ k = "apart" then [k, x, y] else [k, y, x]
  | l => l
def dirs : List Str := ["before", "upto", "far", "next"]
theorem ko_two : ∀ k ∈ two, ko k ∈ two := by decide +kernel
theorem dirs_six : ∀ k ∈ six, (k ∈ dirs ∧ ¬ (k = "same" ∨ k = "apart")) ∨ (k ∉ dirs ∧ (k = "same" ∨ k = "apart")) := by decide +kernel
theorem two_dirs : ∀ k ∈ two, k ∉ dirs := by decide +kernel
theorem turn_ok {ts l : List Str} (h : RuleOk ts l) : RuleOk ts (turn l) := by
  rcases h with ⟨k, x, h1, h2, rfl⟩ | ⟨k, x, y, h1, h2, h3, h4, rfl⟩
  · exact .inl ⟨ko k, x, ko_two k h1, h2, rfl⟩
  · by_cases c : k = "same" ∨ k = "apart"
    · exact .inr ⟨k, x, y, h1, h2, h3, h4, if_pos c⟩
    · exact .inr ⟨k, y, x, h1, h3, h2, fun e => h4 e.symm, if_neg c⟩
theorem turn2 {ts l : List Str} (h : RuleOk ts l) : turn (turn l) = l := by
  rcases h with ⟨k, x, h1, h2, rfl⟩ | ⟨k, x, y, h1, h2, h3, h4, rfl⟩
  · have : ∀ k ∈ two, ko (ko k) = k := by decide +kernel
    show [ko (ko k), x] = [k, x]
    rw [this k h1]
  · by_cases c : k = "same" ∨ k = "apart"
    · show turn (if _ then _ else _) = _
      rw [if_pos c]
      exact if_pos c
    · show turn (if _ then _ else _) = _
      rw [if_neg c]
      exact if_neg c
def sp_turn (K : PySem.W.Frag) : Sp := fun vs H Q _ => ∃ (a : Addr) (ts l : List Str), vs = [.ref a] ∧ H a = some (.tup (l.map V.str)) ∧ RuleOk ts l ∧ ∀ u H', Same H H' → H' u = some (.tup ((turn l).map V.str)) → Q (.ref u) H'
theorem ok_turned (T : Tx K w mg) : FnOk P w K mg base CX0 1 T.f_turned T.d_turned ["rule"] (sp_turn K) := by
  refine T.F_turned.ok sc_turned (fun vs H Q E h => ?_) (fun cdv A outer s H vs Q E hr h => ?_)
  · obtain ⟨a, ts, l, rfl, _⟩ := h
    rfl
  · obtain ⟨a, ts, l, rfl, hA0, ok, k⟩ := h
    have hA : SqT K H a (l.map V.str) := .of hA0
    refine ⟨_,
    (pss_cons
      (ps_if (pt_cmpR op_in_seq (pe_ix ix_tup (pv 0) pe_int (fun _ _ => rfl)) (pe_glob (v := .ref T.d__DIRECTED) (by rfl) T.g__DIRECTED rfl) (by rfl))
        (pss_one
          (ps_ret (pe_tup (pa_cons (pe_ix ix_tup (pv 0) pe_int (fun _ _ => rfl)) (pa_cons (pe_ix ix_tup (pv 0) pe_int (fun _ _ => rfl)) (pa_cons (pe_ix ix_tup (pv 0) pe_int (fun _ _ => rfl)) pa_nil))))))
        pss_nil)
    (pss_cons
      (ps_if (pt_cmpR (op_in_kd T.kd__OTHER_END) (pe_ix ix_tup (pv 0) pe_int (fun _ _ => rfl)) (pe_glob (v := .ref T.d__OTHER_END) (by rfl) T.g__OTHER_END rfl) (by rfl))
        (pss_one
          (ps_ret (pe_tup (pa_cons (pe_ix (ix_kd T.kd__OTHER_END) (pe_glob (v := .ref T.d__OTHER_END) (by rfl) T.g__OTHER_END rfl) (pe_ix ix_tup (pv 0) pe_int (fun _ _ => rfl)) (fun _ _ => rfl)) (pa_cons (pe_ix ix_tup (pv 0) pe_int (fun _ _ => rfl)) pa_nil)))))
        pss_nil)
    (pss_one
      (ps_ret (pv 0))))), ?_⟩
    rcases ok with ⟨kd, x, h1, h2, rfl⟩ | ⟨kd, x, y, h1, h2, h3, h4, rfl⟩
    · have n0 : (inV (V.str kd) (dirs.map V.str)) = false := by rw [inV_str]; exact decide_eq_false (two_dirs kd h1)
      obtain ⟨t, hd⟩ : ∃ t, PySem.W.nsIn K T.d__OTHER_END kd = some (some (.str (ko kd) t)) := by
        rcases two_is h1 with rfl | rfl
        · exact T.k__OTHER_END_first
        · exact T.k__OTHER_END_last
      refine ⟨_, rfl, a, _, _, V.str kd, rfl, rfl, hA, atI_nat (j := 0) rfl, T.d__DIRECTED, _, rfl, .inr (T.sq__DIRECTED _), rfl, flat_strs _, _, rfl, iteNB n0 ?_⟩
      refine ⟨_, rfl, a, _, _, V.str kd, rfl, rfl, hA, atI_nat (j := 0) rfl, _, _, rfl, rfl, hd, _, rfl, iteT ?_⟩
      refine ⟨_, rfl, a, _, _, V.str kd, rfl, rfl, hA, atI_nat (j := 0) rfl, _, _, .str (ko kd), rfl, rfl, hd, ⟨_, rfl⟩, _, rfl, a, _, _, V.str x, rfl, rfl, hA, atI_nat (j := 1) rfl, (by show 2 ≤ sizeLine; decide), fun u hu => k u _ (same_upd hu) upd_same⟩
    · rcases dirs_six kd h1 with ⟨c1, c2⟩ | ⟨c1, c2⟩
      · have n0 : (inV (V.str kd) (dirs.map V.str)) = true := by rw [inV_str]; exact decide_eq_true c1
        refine ⟨_, rfl, a, _, _, V.str kd, rfl, rfl, hA, atI_nat (j := 0) rfl, T.d__DIRECTED, _, rfl, .inr (T.sq__DIRECTED _), rfl, flat_strs _, _, rfl, iteB n0 ?_⟩
        refine ⟨_, rfl, a, _, _, V.str kd, rfl, rfl, hA, atI_nat (j := 0) rfl, _, rfl, a, _, _, V.str y, rfl, rfl, hA, atI_nat (j := 2) rfl, _, rfl, a, _, _, V.str x, rfl, rfl, hA, atI_nat (j := 1) rfl, (by show 3 ≤ sizeLine; decide), fun u hu => k u _ (same_upd hu) ?_⟩
        rw [upd_same, show turn [kd, x, y] = [kd, y, x] from if_neg c2]
        rfl
      · have n0 : (inV (V.str kd) (dirs.map V.str)) = false := by rw [inV_str]; exact decide_eq_false c1
        have hn : PySem.W.nsIn K T.d__OTHER_END kd = some none := by
          rcases c2 with rfl | rfl
          · exact T.k__OTHER_END_same
          · exact T.k__OTHER_END_apart
        refine ⟨_, rfl, a, _, _, V.str kd, rfl, rfl, hA, atI_nat (j := 0) rfl, T.d__DIRECTED, _, rfl, .inr (T.sq__DIRECTED _), rfl, flat_strs _, _, rfl, iteNB n0 ?_⟩
        refine ⟨_, rfl, a, _, _, V.str kd, rfl, rfl, hA, atI_nat (j := 0) rfl, _, _, rfl, rfl, hn, _, rfl, iteF ⟨_, rfl, k a H (Same.refl H) ?_⟩⟩
        rw [show turn [kd, x, y] = [kd, x, y] from if_pos c2]
        exact hA0
theorem ok_law_backward (T : Tx K w mg) : FnOk P w K mg base CX0 1 T.f_law_backward T.d_law_backward ["rule"] (sp_turn K) := by
  refine T.F_law_backward.ok sc_law_backward (fun vs H Q E h => ?_) (fun cdv A outer s H vs Q E hr h => ?_)
  · obtain ⟨a, ts, l, rfl, _⟩ := h
    rfl
  · obtain ⟨a, ts, l, rfl, hA0, ok, k⟩ := h
    have hA : SqT K H a (l.map V.str) := .of hA0
    refine ⟨_,
    (pss_cons
      (ps_if (pt_cmpR op_eq (pe_ix ix_tup (pv 0) pe_int (fun _ _ => rfl)) pe_str (nomark _))
        (pss_one
          (ps_ret (pe_tup (pa_cons pe_str (pa_cons (pe_ix ix_tup (pv 0) pe_int (fun _ _ => rfl)) pa_nil)))))
        pss_nil)
    (pss_cons
      (ps_if (pt_cmpR op_eq (pe_ix ix_tup (pv 0) pe_int (fun _ _ => rfl)) pe_str (nomark _))
        (pss_one
          (ps_ret (pe_tup (pa_cons pe_str (pa_cons (pe_ix ix_tup (pv 0) pe_int (fun _ _ => rfl)) pa_nil)))))
        pss_nil)
    (pss_cons
      (ps_if (pt_cmpR op_in_seq (pe_ix ix_tup (pv 0) pe_int (fun _ _ => rfl)) (pe_tup (pa_cons pe_str (pa_cons pe_str pa_nil))) (by rfl))
        (pss_one
          (ps_ret (pv 0)))
        pss_nil)
    (pss_one
      (ps_ret (pe_tup (pa_cons (pe_ix ix_tup (pv 0) pe_int (fun _ _ => rfl)) (pa_cons (pe_ix ix_tup (pv 0) pe_int (fun _ _ => rfl)) (pa_cons (pe_ix ix_tup (pv 0) pe_int (fun _ _ => rfl)) pa_nil))))))))), ?_⟩
    rcases ok with ⟨kd, x, h1, h2, rfl⟩ | ⟨kd, x, y, h1, h2, h3, h4, rfl⟩
    · refine ⟨_, rfl, a, _, _, V.str kd, rfl, rfl, hA, atI_nat (j := 0) rfl, rfl, _, rfl, ite2 (fun c => ?_) (fun c => ?_)⟩
      · have c1 := dS c
        refine ⟨_, rfl, a, _, _, V.str x, rfl, rfl, hA, atI_nat (j := 1) rfl, (by show 2 ≤ sizeLine; decide), fun u hu => k u _ (same_upd hu) ?_⟩
        rw [upd_same, c1]
        rfl
      · have c1 := dSN c
        have c2 : kd = "last" := (two_is h1).resolve_left c1
        refine ⟨_, rfl, a, _, _, V.str kd, rfl, rfl, hA, atI_nat (j := 0) rfl, rfl, _, rfl, iteD (congrArg V.str c2) ⟨_, rfl, a, _, _, V.str x, rfl, rfl, hA, atI_nat (j := 1) rfl, (by show 2 ≤ sizeLine; decide), fun u hu => k u _ (same_upd hu) ?_⟩⟩
        rw [upd_same, c2]
        rfl
    · obtain ⟨n1, n2⟩ := six_not h1
      refine ⟨_, rfl, a, _, _, V.str kd, rfl, rfl, hA, atI_nat (j := 0) rfl, rfl, _, rfl, iteND (fun z => n1 (V.str.inj z)) ⟨_, rfl, a, _, _, V.str kd, rfl, rfl, hA, atI_nat (j := 0) rfl, rfl, _, rfl, iteND (fun z => n2 (V.str.inj z)) ?_⟩⟩
      refine ⟨_, rfl, a, _, _, V.str kd, rfl, rfl, hA, atI_nat (j := 0) rfl, (by show 2 ≤ sizeLine; decide), fun U hU => ?_⟩
      have sU := same_upd (o := .tup [V.str ("same" : Str), V.str ("apart" : Str)]) hU
      have eU : SqT K (upd H U (.tup [V.str ("same" : Str), V.str ("apart" : Str)])) U ([("same" : Str), "apart"].map V.str) := .of upd_same
      have hA1 := Same.tup sU hA
      refine ⟨U, _, rfl, .inr eU, rfl, flat_strs _, _, rfl, ite2 (fun c => ?_) (fun c => ?_)⟩
      · rw [inV_str] at c
        have c2 : kd = "same" ∨ kd = "apart" := by simpa using c
        refine ⟨_, rfl, k a _ sU ?_⟩
        rw [show turn [kd, x, y] = [kd, x, y] from if_pos c2]
        exact sU _ _ hA0
      · rw [inV_str] at c
        have c2 : ¬ (kd = "same" ∨ kd = "apart") := by simpa using c
        refine ⟨_, rfl, a, _, _, V.str kd, rfl, rfl, hA1, atI_nat (j := 0) rfl, _, rfl, a, _, _, V.str y, rfl, rfl, hA1, atI_nat (j := 2) rfl, _, rfl, a, _, _, V.str x, rfl, rfl, hA1, atI_nat (j := 1) rfl, (by show 3 ≤ sizeLine; decide), fun u hu => k u _ (sU.trans (same_upd hu)) ?_⟩
        rw [upd_same, show turn [kd, x, y] = [kd, y, x] from if_neg c2]
        rfl
def sp_tub (K : PySem.W.Frag) (C : Addr) : Sp := fun vs H Q _ => ∃ (b : Addr) (ts : List Str) (ls : List (List Str)), vs = [.ref b] ∧ BkR K C H b ts ls ∧ TasksOk ts ∧ ls.length ≤ 1000 ∧
  ∀ (x dx p q : Addr) (as : List Addr) (H' : Hp), Same H H' → H p = none → H q = none → H' x = some (.ins C dx (fl p q)) → H' p = some (.lst (ts.map V.str)) → H' q = some (.lst (as.map V.ref)) → Rls ts H' as (ls.map turn) → Q (.ref x) H'
theorem ok_Book_turned (T : Tx K w mg) : FnOk P w K mg base CX0 5 T.f_Book_turned T.d_Book_turned ["self"] (sp_tub K T.C_Book) := by
  refine T.F_Book_turned.ok sc_Book_turned (fun vs H Q E h => ?_) (fun cdv A outer s H vs Q E hr h => ?_)
  · obtain ⟨b, ts, ls, rfl, _⟩ := h
    rfl
  · obtain ⟨b, ts, ls, rfl, ⟨bx, t, r, as, hb, ht, hR, rls⟩, ok, few, k⟩ := h
    refine ⟨_,
    (pss_one
      (ps_ret (pe_make T.mk_Book (ok_Book_init T) hr (by rfl) T.mg_Book T.b_Book_init .nil pass0 (pa_cons (pe_fld (pv 0) rfl) (pa_cons (pe_lc (own := [("rule", 1)]) (g := gName 1) rfl sc_Book_turned.nd (pi_list (pe_fld (pv 0) rfl)) (blkOk_by (N := ["self", "rule"]) (sc := defScope s_Book_turned) (own := [("rule", 1)]) (by decide +kernel)) (fun _ _ _ _ _ => (pg_name (i := 1) sc_Book_turned.nd rfl (.inl rfl))) (fun _ _ _ _ _ => pts_nil) (fun _ _ _ _ _ => (pe_call (ok_turned T) (hr.mono (by decide)) (by rfl) T.g_turned T.F_turned.kp T.b_turned .nil pass0 (pa_cons (pv 1) pa_nil)))) pa_nil))))), ?_⟩
    have alen := rls.len
    refine ⟨_, rfl, b, T.C_Book, bx, _, _, rfl, hb, T.cl_Book, T.n_Book_tasks, fl_t t r, _, rfl, b, T.C_Book, bx, _, _, rfl, hb, T.cl_Book, T.n_Book_rules, fl_r t r, r, rfl, ⟨_, .of hR⟩, fun D hD => ?_⟩
    refine lc_list (xs := as.map V.ref) (fun i H' => ∃ bs : List Addr, H' D = some (.lst (bs.map V.ref)) ∧ Rls ts H' bs ((ls.take i).map turn) ∧ bs.length = i ∧ Same H H') ⟨[], upd_same, .nil, rfl, same_upd hD⟩ ?_ ?_ ?_
    · rintro i H' _ ⟨bs, _, _, _, sm⟩
      exact .of (sm _ _ hR)
    · rintro i v H1 hi ⟨bs, eD, rb, bl, sm⟩
      have hil := (List.getElem?_eq_some_iff.mp hi).1
      rw [List.length_map] at hil
      rw [List.getElem?_map] at hi
      obtain ⟨a, ha, rfl⟩ := Option.map_eq_some_iff.mp hi
      obtain ⟨l, hl, ea, rok⟩ := rls.at ha
      refine ⟨rfl, _, rfl, a, ts, l, rfl, sm _ _ ea, rok, fun u H2 s2 eu => ⟨bs.map V.ref, s2 _ _ eD, ?_, bs ++ [u], ?_, ?_, ?_, fun x o e => ?_⟩⟩
      · rw [List.length_map]; exact small1000 (by omega)
      · rw [upd_same, List.map_append]; rfl
      · have e2 : (ls.take (i + 1)).map turn = (ls.take i).map turn ++ [turn l] := by rw [List.take_add_one, hl, List.map_append]; rfl
        rw [e2]
        exact ((rb.keep (Same.tk s2)).snoc eu (turn_ok rok)).keep (tk_mut (s2 _ _ eD))
      · rw [List.length_append, bl]; rfl
      · rw [upd_ne (ne_of_none e hD)]
        exact s2 x o (sm x o e)
    · rintro H1 ⟨bs, eD, rb, bl, sm⟩
      rw [List.length_map, alen, List.take_length] at rb
      have sq : ∀ {H : Hp} {x dx b : Addr} {o : HO}, H x = none → H dx = none → H b = some o → (upd (upd H dx (.own x)) x (.ins T.C_Book dx [])) b = some o := fun hx hdx e => by
        rw [upd_ne (ne_of_none e hx), upd_ne (ne_of_none e hdx)]; exact e
      refine fun x dx hx hdx ne => ⟨x, dx, t, D, ts, bs, rfl, upd_same, .of (sq hx hdx (sm _ _ ht)), .of (sq hx hdx eD), ok, fun u hu => ?_, fun p q H2 fp fq ex ep eq kp => ⟨rfl, ?_⟩⟩
      · obtain ⟨l, e, h⟩ := rb.mem hu
        exact ⟨l, .of (sq hx hdx e), h⟩
      have s2 : Same H1 H2 := Same.made hx hdx kp
      have free : ∀ {p : Addr}, (upd (upd H1 dx (.own x)) x (.ins T.C_Book dx [])) p = none → H1 p = none := fun {p} f => by
        cases h : H1 p with
        | none => rfl
        | some o =>
          rw [sq hx hdx h] at f
          cases f
      exact k x dx p q bs H2 (sm.trans s2) (sm.free (free fp)) (sm.free (free fq)) ex ep eq (rb.keep (Same.tk s2))
/-! ### books out of books -/
def PostB (C : Addr) (H : Hp) (ts : List Str) (ls : List (List Str)) (Q : VK) : Prop := ∀ (x dx p q : Addr) (as : List Addr) (H' : Hp), Same H H' → H p = none → H q = none → H' x = some (.ins C dx (fl p q)) → H' p = some (.lst (ts.map V.str)) → H' q = some (.lst (as.map V.ref)) → Rls ts H' as ls → Q (.ref x) H'
theorem mkB {C : Addr} {H H1 : Hp} {t D : Addr} {ts : List Str} {bs : List Addr} {ls : List (List Str)} {R : Addr → Hp → Prop} {E : XK} (sm : Same H H1) (ht : H1 t = some (.lst (ts.map V.str))) (eD : H1 D = some (.lst (bs.map V.ref))) (rb : Rls ts H1 bs ls) (ok : TasksOk ts) (k : ∀ (x dx p q : Addr) (as : List Addr) (H' : Hp), Same H H' → H p = none → H q = none → H' x = some (.ins C dx (fl p q)) → H' p = some (.lst (ts.map V.str)) → H' q = some (.lst (as.map V.ref)) → Rls ts H' as ls → R x H') :
    ∀ x dx, H1 x = none → H1 dx = none → dx ≠ x → sp_init K C [.ref x, .ref t, .ref D] (upd (upd H1 dx (.own x)) x (.ins C dx [])) (fun v H' => v = V.non ∧ R x H') E := by
  have sq : ∀ {H : Hp} {x dx b : Addr} {o : HO}, H x = none → H dx = none → H b = some o → (upd (upd H dx (.own x)) x (.ins C dx [])) b = some o := fun hx hdx e => by
    rw [upd_ne (ne_of_none e hx), upd_ne (ne_of_none e hdx)]; exact e
  refine fun x dx hx hdx ne => ⟨x, dx, t, D, ts, bs, rfl, upd_same, .of (sq hx hdx ht), .of (sq hx hdx eD), ok, fun u hu => ?_, fun p q H2 fp fq ex ep eq kp => ⟨rfl, ?_⟩⟩
  · obtain ⟨l, e, h⟩ := rb.mem hu
    exact ⟨l, .of (sq hx hdx e), h⟩
  have s2 : Same H1 H2 := Same.made hx hdx kp
  have free : ∀ {p : Addr}, (upd (upd H1 dx (.own x)) x (.ins C dx [])) p = none → H1 p = none := fun {p} f => by
    cases h : H1 p with
    | none => rfl
    | some o =>
      rw [sq hx hdx h] at f
      cases f
  exact k x dx p q bs H2 (sm.trans s2) (sm.free (free fp)) (sm.free (free fq)) ex ep eq (rb.keep (Same.tk s2))
theorem Rls.take {ts : List Str} {H : Hp} : ∀ {as : List Addr} {ls : List (List Str)} (n : Nat), Rls ts H as ls → Rls ts H (as.take n) (ls.take n)
  | _, _, 0, _ => by simpa using Rls.nil
  | _, _, _ + 1, .nil => .nil
  | _, _, n + 1, .cons h k r => .cons h k (r.take n)
theorem Rls.drop {ts : List Str} {H : Hp} : ∀ {as : List Addr} {ls : List (List Str)} (n : Nat), Rls ts H as ls → Rls ts H (as.drop n) (ls.drop n)
  | _, _, 0, r => by simpa using r
  | _, _, _ + 1, .nil => .nil
  | _, _, n + 1, .cons _ _ r => r.drop n
theorem Rls.app {ts : List Str} {H : Hp} {bs : List Addr} {ms : List (List Str)} (h2 : Rls ts H bs ms) : ∀ {as : List Addr} {ls : List (List Str)}, Rls ts H as ls → Rls ts H (as ++ bs) (ls ++ ms)
  | _, _, .nil => h2
  | _, _, .cons h n r => .cons h n (h2.app r)
def sp_with (K : PySem.W.Frag) (C : Addr) : Sp := fun vs H Q _ => ∃ (b r : Addr) (ts : List Str) (ls ms : List (List Str)) (as : List Addr), vs = [.ref b, .ref r] ∧ BkR K C H b ts ls ∧ H r = some (.lst (as.map V.ref)) ∧ Rls ts H as ms ∧ TasksOk ts ∧ ls.length ≤ 400 ∧ ms.length ≤ 400 ∧ PostB C H ts (ls ++ ms) Q
theorem ok_Book_with_rules (T : Tx K w mg) : FnOk P w K mg base CX0 5 T.f_Book_with_rules T.d_Book_with_rules ["self", "rules"] (sp_with K T.C_Book) := by
  refine T.F_Book_with_rules.ok sc_Book_with_rules (fun vs H Q E h => ?_) (fun cdv A outer s H vs Q E hr h => ?_)
  · obtain ⟨b, r, ts, ls, ms, as, rfl, _⟩ := h
    rfl
  · obtain ⟨b, r, ts, ls, ms, as, rfl, ⟨bx, t, br, bs, hb, ht, hR, rls⟩, hr', rms, ok, f1, f2, k⟩ := h
    refine ⟨_,
    (pss_one
      (ps_ret (pe_make T.mk_Book (ok_Book_init T) hr (by rfl) T.mg_Book T.b_Book_init .nil pass0 (pa_cons (pe_fld (pv 0) rfl) (pa_cons (pe_op op_cat (pe_fld (pv 0) rfl) (pv 1)) pa_nil))))), ?_⟩
    have l1 := rls.len
    have l2 := rms.len
    refine ⟨_, rfl, b, T.C_Book, bx, _, _, rfl, hb, T.cl_Book, T.n_Book_tasks, fl_t t br, _, rfl, b, T.C_Book, bx, _, _, rfl, hb, T.cl_Book, T.n_Book_rules, fl_r t br, _, rfl, br, r, _, _, rfl, rfl, hR, hr', ?_, fun p hp => ?_⟩
    · rw [List.length_map, List.length_map]; exact Nat.le_of_lt (small1000 (by omega))
    have sp := same_upd (o := .lst (bs.map V.ref ++ as.map V.ref)) hp
    exact mkB sp (sp _ _ ht) (by rw [upd_same, ← List.map_append]) ((rms.keep (Same.tk sp)).app (rls.keep (Same.tk sp))) ok k
def sp_wout (K : PySem.W.Frag) (C : Addr) : Sp := fun vs H Q _ => ∃ (b : Addr) (i : Nat) (ts : List Str) (ls : List (List Str)), vs = [.ref b, .int i] ∧ BkR K C H b ts ls ∧ TasksOk ts ∧ i < ls.length ∧ ls.length ≤ 400 ∧ PostB C H ts (ls.take i ++ ls.drop (i + 1)) Q
theorem ok_Book_without (T : Tx K w mg) : FnOk P w K mg base CX0 5 T.f_Book_without T.d_Book_without ["self", "index"] (sp_wout K T.C_Book) := by
  refine T.F_Book_without.ok sc_Book_without (fun vs H Q E h => ?_) (fun cdv A outer s H vs Q E hr h => ?_)
  · obtain ⟨b, i, ts, ls, rfl, _⟩ := h
    rfl
  · obtain ⟨b, i, ts, ls, rfl, ⟨bx, t, br, bs, hb, ht, hR, rls⟩, ok, hi, few, k⟩ := h
    refine ⟨_,
    (pss_cons
      (ps_if (pt_not (pt_chain op_le op_lt pe_int (pv 1) (pe_callB call_len_seq (by rfl) T.m_len (by decide +kernel) (pa_cons (pe_fld (pv 0) rfl) pa_nil))))
        (pss_one
          ps_never)
        pss_nil)
    (pss_one
      (ps_ret (pe_make T.mk_Book (ok_Book_init T) hr (by rfl) T.mg_Book T.b_Book_init .nil pass0 (pa_cons (pe_fld (pv 0) rfl) (pa_cons (pe_op op_cat (pe_slice sl_list (pe_fld (pv 0) rfl) po_none (po_some (pv 1))) (pe_slice sl_list (pe_fld (pv 0) rfl) (po_some (pe_op op_add (pv 1) pe_int)) po_none)) pa_nil)))))), ?_⟩
    have l1 := rls.len
    refine ⟨_, rfl, _, _, rfl, rfl, _, rfl, iteD (show (0 : Int) ≤ (i : Int) by omega) ⟨_, rfl, b, T.C_Book, bx, _, _, rfl, hb, T.cl_Book, T.n_Book_rules, fl_r t br, br, _, rfl, .inl (.of hR), _, _, rfl, rfl, _, rfl, iteNS ?_ ?_⟩⟩
    · show (i : Int) < ((bs.map V.ref).length : Int)
      rw [List.length_map]
      omega
    refine ⟨_, rfl, b, T.C_Book, bx, _, _, rfl, hb, T.cl_Book, T.n_Book_tasks, fl_t t br, _, rfl, b, T.C_Book, bx, _, _, rfl, hb, T.cl_Book, T.n_Book_rules, fl_r t br, _, rfl, _, rfl, br, _, rfl, .of hR, fun p hp => ?_⟩
    have sp := same_upd (o := .lst (cutV (bs.map V.ref) none (some (i : Int)))) hp
    have ep : (upd H p (.lst (cutV (bs.map V.ref) none (some (i : Int))))) p = some (.lst ((bs.take i).map V.ref)) := by rw [upd_same, cut_take, List.map_take]
    generalize upd H p (.lst (cutV (bs.map V.ref) none (some (i : Int)))) = H1 at sp ep
    refine ⟨_, rfl, b, T.C_Book, bx, _, _, rfl, sp _ _ hb, T.cl_Book, T.n_Book_rules, fl_r t br, _, rfl, _, _, rfl, rfl, _, rfl, br, _, rfl, .of (sp _ _ hR), fun p2 hp2 => ?_⟩
    have s2 := same_upd (o := .lst (cutV (bs.map V.ref) (some ((i : Int) + 1)) none)) hp2
    have e2 : (upd H1 p2 (.lst (cutV (bs.map V.ref) (some ((i : Int) + 1)) none))) p2 = some (.lst ((bs.drop (i + 1)).map V.ref)) := by
      rw [upd_same, show (i : Int) + 1 = ((i + 1 : Nat) : Int) by omega, cut_drop, List.map_drop]
    have ep2 := s2 _ _ ep
    have s12 := sp.trans s2
    generalize upd H1 p2 (.lst (cutV (bs.map V.ref) (some ((i : Int) + 1)) none)) = H2 at s2 e2 ep2 s12
    refine ⟨p, p2, _, _, rfl, rfl, ep2, e2, ?_, fun p3 hp3 => ?_⟩
    · rw [List.length_map, List.length_map, List.length_take, List.length_drop]; exact Nat.le_of_lt (small1000 (by omega))
    have s3 := s12.trans (same_upd (o := .lst ((bs.take i).map V.ref ++ (bs.drop (i + 1)).map V.ref)) hp3)
    exact mkB s3 (s3 _ _ ht) (by rw [upd_same, ← List.map_append]) (((rls.drop (i + 1)).keep (Same.tk s3)).app ((rls.take i).keep (Same.tk s3))) ok k
def sp_and (K : PySem.W.Frag) (C : Addr) : Sp := fun vs H Q _ => ∃ (a b : Addr) (ts : List Str) (ls ms : List (List Str)), vs = [.ref a, .ref b] ∧ BkR K C H a ts ls ∧ BkR K C H b ts ms ∧ TasksOk ts ∧ ts.length ≤ 100 ∧ ls.length ≤ 400 ∧ ms.length ≤ 400 ∧ PostB C H ts (ls ++ ms) Q
theorem ok_Book_and (T : Tx K w mg) : FnOk P w K mg base CX0 5 T.f_Book_and T.d_Book_and ["self", "other"] (sp_and K T.C_Book) := by
  refine T.F_Book_and.ok sc_Book_and (fun vs H Q E h => ?_) (fun cdv A outer s H vs Q E hr h => ?_)
  · obtain ⟨a, b, ts, ls, ms, rfl, _⟩ := h
    rfl
  · obtain ⟨a, b, ts, ls, ms, rfl, ⟨ax, at1, ar, as, ha, hat, har, rla⟩, ⟨bx, bt, br, bs, hb, hbt, hbr, rlb⟩, ok, few, f1, f2, k⟩ := h
    refine ⟨_,
    (pss_cons
      (ps_setLc (i := 2) (own := [("name", 3)]) (g := gName 3) rfl sc_Book_and.nd rfl rfl (sw_true rfl rfl rfl (by decide +kernel)) (pi_list (pe_prop (pv 1) T.cl_Book T.pr_Book_tasks (ok_Book_tasks T) (hr.mono (by decide)) T.b_Book_tasks .nil pass0 (by rfl))) (blkOk_by (N := ["self", "other", "more", "name"]) (sc := defScope s_Book_and) (own := [("name", 3)]) (by decide +kernel)) (fun _ _ _ _ _ => (pg_name (i := 3) sc_Book_and.nd rfl (.inl rfl))) (fun _ _ _ _ _ => (pts_one (pt_cmpR (r := rIn K true) op_notIn_seq (pv 3) (pe_fldK (K := K) rfl (pv 0) rfl) (by rfl)))) (fun _ _ _ _ _ => (pv 3)))
    (pss_one
      (ps_ret (pe_make T.mk_Book (ok_Book_init T) hr (by rfl) T.mg_Book T.b_Book_init .nil pass0 (pa_cons (pe_op op_cat (pe_fld (pv 0) rfl) (pv 2)) (pa_cons (pe_op op_cat (pe_fld (pv 0) rfl) (pe_prop (pv 1) T.cl_Book T.pr_Book_rules (ok_Book_rules T) (hr.mono (by decide)) T.b_Book_rules .nil pass0 (by rfl))) pa_nil)))))), ?_⟩
    have l1 := rla.len
    have l2 := rlb.len
    refine ⟨_, rfl, b, bx, _, rfl, hb, b, bx, bt, br, bt, _, rfl, hb, fl_t bt br, .of hbt, fun U hU => ?_⟩
    have sU := same_upd (o := .lst (ts.map V.str)) hU
    have eU : (upd H U (.lst (ts.map V.str))) U = some (.lst (ts.map V.str)) := upd_same
    generalize upd H U (.lst (ts.map V.str)) = H1 at sU eU
    refine ⟨U, rfl, ⟨_, .of eU⟩, fun D hD => ?_⟩
    refine lc_list (xs := ts.map V.str) (fun i H' => H' D = some (.lst []) ∧ Same H1 H') ⟨upd_same, same_upd hD⟩ (fun i H' _ h => .of (h.2 _ _ eU)) ?_ ?_
    · rintro i v H2 hi ⟨eD, s2⟩
      rw [List.getElem?_map] at hi
      obtain ⟨z, hz, rfl⟩ := Option.map_eq_some_iff.mp hi
      have s02 := sU.trans s2
      refine ⟨rfl, _, rfl, _, rfl, a, T.C_Book, ax, _, _, rfl, s02 _ _ ha, T.cl_Book, T.n_Book_tasks, fl_t at1 ar, at1, _, rfl, .inl (.of (s02 _ _ hat)), rfl, flat_strs _, _, rfl, iteNB ?_ ⟨eD, s2⟩⟩
      show (!inV (V.str z) _) = false
      rw [inV_str, decide_eq_true (List.mem_of_getElem? hz)]
      rfl
    · rintro H2 ⟨eD, s2⟩
      have s02 := sU.trans s2
      refine ⟨_, rfl, a, T.C_Book, ax, _, _, rfl, s02 _ _ ha, T.cl_Book, T.n_Book_tasks, fl_t at1 ar, _, rfl, at1, D, _, _, rfl, rfl, s02 _ _ hat, eD, ?_, fun p hp => ?_⟩
      · rw [List.length_map]; exact Nat.le_of_lt (small1000 (by show ts.length + 0 ≤ 1000; omega))
      have sp := same_upd (o := .lst (ts.map V.str ++ [])) hp
      have s3 := s02.trans sp
      have ep : (upd H2 p (.lst (ts.map V.str ++ []))) p = some (.lst (ts.map V.str)) := by rw [upd_same, List.append_nil]
      generalize upd H2 p (.lst (ts.map V.str ++ [])) = H3 at sp s3 ep
      refine ⟨_, rfl, a, T.C_Book, ax, _, _, rfl, s3 _ _ ha, T.cl_Book, T.n_Book_rules, fl_r at1 ar, _, rfl, b, bx, _, rfl, s3 _ _ hb, b, bx, bt, br, br, _, rfl, s3 _ _ hb, fl_r bt br, .of (s3 _ _ hbr), fun V1 hV => ?_⟩
      have sV := same_upd (o := .lst (bs.map V.ref)) hV
      have s4 := s3.trans sV
      refine ⟨ar, V1, _, _, rfl, rfl, s4 _ _ har, upd_same, ?_, fun p2 hp2 => ?_⟩
      · rw [List.length_map, List.length_map]; exact Nat.le_of_lt (small1000 (by omega))
      have sp2 := same_upd (o := .lst (as.map V.ref ++ bs.map V.ref)) hp2
      have s5 := s4.trans sp2
      exact mkB s5 (sp2 _ _ (sV _ _ ep)) (by rw [upd_same, ← List.map_append]) ((rlb.keep (Same.tk s5)).app (rla.keep (Same.tk s5))) ok k
theorem eqvAll_strs : ∀ r s : List Str, PyData.eqvAll (r.map PyData.str) (s.map PyData.str) = decide (r = s)
  | [], [] => by simp [PyData.eqvAll]
  | [], _ :: _ => by simp [PyData.eqvAll]
  | _ :: _, [] => by simp [PyData.eqvAll]
  | x :: r, y :: s => by
    rw [List.map_cons, List.map_cons]
    show (x == y && PyData.eqvAll (r.map PyData.str) (s.map PyData.str)) = decide (x :: r = y :: s)
    rw [eqvAll_strs r s]
    by_cases c : x = y
    · by_cases d : r = s
      · simp [c, d]
      · simp [c, d]
    · simp [c]
theorem eqvAll_rules : ∀ r s : List (List Str), PyData.eqvAll (r.map rdata) (s.map rdata) = decide (r = s)
  | [], [] => by simp [PyData.eqvAll]
  | [], _ :: _ => by simp [PyData.eqvAll]
  | _ :: _, [] => by simp [PyData.eqvAll]
  | x :: r, y :: s => by
    rw [List.map_cons, List.map_cons]
    show (PyData.eqvAll (x.map PyData.str) (y.map PyData.str) && PyData.eqvAll (r.map rdata) (s.map rdata)) = decide (x :: r = y :: s)
    rw [eqvAll_rules r s, eqvAll_strs x y]
    by_cases c : x = y
    · by_cases d : r = s
      · simp [c, d]
      · simp [c, d]
    · simp [c]
theorem eqv_td (ts us : List Str) : PyData.eqv (tdata ts) (tdata us) = decide (ts = us) := eqvAll_strs ts us
theorem eqv_rs (ls ms : List (List Str)) : PyData.eqv (rsdata ls) (rsdata ms) = decide (ls = ms) := eqvAll_rules ls ms
theorem Bk.parts {C : Addr} {H : Hp} {d g b : Addr} {ts : List Str} {ls : List (List Str)} (h : Bk C H d g b ts ls) : ∃ dx t r, H b = some (.ins C dx (fl t r)) ∧ BkR K C H b ts ls := by
  obtain ⟨dx, t, r, h1, h2, as, h3, h4⟩ := h
  exact ⟨dx, t, r, h1, dx, t, r, as, h1, h2.at_, h3.at_, h4⟩
theorem Bk.of {C : Addr} {H : Hp} {d g x dx p q : Addr} {as : List Addr} {ts : List Str} {ls : List (List Str)} {H0 : Hp} (hD : Deck H0 d g) (fp : H0 p = none) (fq : H0 q = none) (ex : H x = some (.ins C dx (fl p q))) (ep : H p = some (.lst (ts.map V.str))) (eq : H q = some (.lst (as.map V.ref))) (rl : Rls ts H as ls) : Bk C H d g x ts ls :=
  ⟨dx, p, q, ex, ⟨ep, (hD.new fp).1, (hD.new fp).2⟩, as, ⟨eq, (hD.new fq).1, (hD.new fq).2⟩, rl⟩
theorem Std.same {H0 H1 H2 : Hp} {d g : Addr} (s : Std H0 H1 d g) (t : Same H1 H2) : Std H0 H2 d g := ⟨s.dk.same t, s.kd.trans (Same.kd t)⟩
theorem map_snoc_ref (us : List Addr) (U : Addr) : (us ++ [U]).map V.ref = us.map V.ref ++ [V.ref U] := by rw [List.map_append]; rfl
theorem cut_d (xs : List Addr) (c : Nat) : cutV (xs.map V.ref) (some (c : Int)) none = (xs.drop c).map V.ref := by rw [cut_drop, List.map_drop]
theorem cut_t (xs : List Addr) (c : Nat) : cutV (xs.map V.ref) none (some (c : Int)) = (xs.take c).map V.ref := by rw [cut_take, List.map_take]
theorem deck_mv {H : Hp} {d g R : Addr} {o : HO} (h : Deck H d g) (n : R ≠ d ∧ R ≠ g) : Deck (upd H R o) d g := by
  obtain ⟨gs, a0, m0, g1, g2, g3⟩ := h
  exact ⟨gs, a0, m0, by rw [upd_ne n.1.symm]; exact g1, by rw [upd_ne n.2.symm]; exact g2, g3⟩
theorem fl_keeps (t r : Addr) : (fl t r).lookup ("keeps" : Str) = none := by
  unfold fl
  rw [lookup_putF, if_neg (by decide +kernel), lookup_putF, if_neg (by decide +kernel)]
  rfl
theorem fl_with (t r : Addr) : (fl t r).lookup ("with_rules" : Str) = none := by
  unfold fl
  rw [lookup_putF, if_neg (by decide +kernel), lookup_putF, if_neg (by decide +kernel)]
  rfl
theorem fl_wout (t r : Addr) : (fl t r).lookup ("without" : Str) = none := by
  unfold fl
  rw [lookup_putF, if_neg (by decide +kernel), lookup_putF, if_neg (by decide +kernel)]
  rfl
/-- all but the deck and R is as it was -/
def Kr (d g R : Addr) (H H' : Hp) : Prop := ∀ b o, H b = some o → b ≠ d → b ≠ g → b ≠ R → H' b = some o
theorem Kd.kr {d g R : Addr} {H H' : Hp} (k : Kd d g H H') : Kr d g R H H' := fun b o e n1 n2 _ => k b o e n1 n2
theorem kr_upd {d g R : Addr} {H : Hp} {o : HO} : Kr d g R H (upd H R o) := fun b u e _ _ n => by rw [upd_ne n]; exact e
theorem Kr.trans {d g R : Addr} {H H1 H2 : Hp} (a : Kr d g R H H1) (b : Kr d g R H1 H2) : Kr d g R H H2 := fun x o h n1 n2 n3 => b x o (a x o h n1 n2 n3) n1 n2 n3
/-! ### the law -/
/-! ### words that are no tasks, tuples of words -/
def Wo (z : Str) : Prop := ∀ c ∈ z.cps.toList, c < 1000
theorem Wo.ok {z : Str} (h : Wo z) : PyData.canLay0 (.str z) = true := by
  simp only [PyData.canLay0, PyData.strOk, Array.all_eq_true, decide_eq_true_eq]
  intro i hi
  have hm : z.cps[i] ∈ z.cps.toList := by simp
  have := h _ hm
  omega
theorem Wo.cutT {z : Str} (h : Wo z) (i : Nat) : Wo (cutS z none (some (i : Int))) := fun c hc => h c (by rw [l_cutT] at hc; exact List.mem_of_mem_take hc)
theorem Wo.cutD {z : Str} (h : Wo z) (i : Nat) : Wo (cutS z (some (i : Int)) none) := fun c hc => h c (by rw [l_cutD] at hc; exact List.mem_of_mem_drop hc)
theorem Wo.app {x y : Str} (h : Wo x) (k : Wo y) : Wo (x ++ y) := fun c hc => by
  rw [l_app] at hc
  rcases List.mem_append.mp hc with a | a
  · exact h c a
  · exact k c a
theorem Nm.wo {z : Str} (h : Nm z) : Wo z := fun c hc => by
  have := h.low c hc
  omega
theorem cutV_some {l : List Str} (lo hi : Option Int) : ∃ m : List Str, cutV (l.map V.str) lo hi = m.map V.str ∧ m.length ≤ l.length ∧ ∀ z ∈ m, z ∈ l := by
  refine ⟨(l.drop (HT.sIx l.length 0 lo)).take (HT.sIx l.length l.length hi - HT.sIx l.length 0 lo), ?_, ?_, fun z hz => List.mem_of_mem_drop (List.mem_of_mem_take hz)⟩
  · unfold cutV
    rw [List.length_map, List.map_take, List.map_drop]
  · rw [List.length_take, List.length_drop]
    omega
def sgs : Str := " !\"#$&'()*+,-./0123456789:;<=>?@ABCDEFGHIJKLMNOPQRSTUVWXYZ[\\]^_`abcdefghijklmnopqrstuvwxyz{|}~"
theorem sgs_low : Wo sgs := by unfold Wo; decide +kernel
theorem sgs_len : sgs.cps.toList.length = 94 := by decide +kernel
theorem sgs_at {r : Nat} (h : r < 94) : ∃ c, sgs.cps.toList[r]? = some c ∧ c < 1000 := by
  have h2 : r < sgs.cps.toList.length := by rw [sgs_len]; exact h
  exact ⟨_, List.getElem?_eq_getElem h2, sgs_low _ (List.getElem_mem h2)⟩
theorem sgs_line : sgs.length ≤ sizeLine := by
  rw [len_l, sgs_len]
  decide
theorem Wo.one {c : Nat} (h : c < 1000) : Wo (one c) := fun x hx => by
  have : x = c := by simpa [K11.one] using hx
  omega
theorem Wo.join {cs : List Nat} (h : ∀ c ∈ cs, c < 1000) : Wo (Txt.join ("" : Str) (cs.map K11.one)) := fun c hc => by
  rw [l_join] at hc
  exact h c hc
/-- [signs[draw(len(signs))] for .. in range(n)] -/
theorem lc_signs {σ : L2.St} {H : Hp} {j : Nat} {d g D : Addr} {n : Nat} {Qd : Hp → Prop} (hn : n ≤ 1000) (s0 : σ[0]? = some (some (.ref d))) (s2 : σ[2]? = some (some (.str sgs))) (j0 : j ≠ 0) (j2 : j ≠ 2) (hD : Deck H d g) (nD : H D = none)
    {tl : TE} (ht : ∀ (σ' : L2.St) (H' : Hp) (Q : VK), σ'[2]? = some (some (.str sgs)) → Q (.int 94) H' → tl σ' H' Q)
    (q : ∀ (H' : Hp) (cs : List Nat), Deck H' d g → Kd d g H H' → H' D = some (.lst ((cs.map one).map V.str)) → cs.length = n → (∀ c ∈ cs, c < 1000) → Qd H') :
    ∃ W : Nat → Nat → Hp → Prop, (∃ m, W 0 m (upd H D (.lst []))) ∧ ∀ i m H, W i m H →
      ((Itr 0 n).stop i H ∧ Qd H) ∨ ((Itr 0 n).go i H ∧ ∃ Nx : Hp → Prop, (∀ H', Nx H' → ∃ m', m' < m ∧ W (i + 1) m' H') ∧ ∀ x H', (Itr 0 n).yld i H x H' → gName j x (wipe σ [j]) H' fun σ2 H2 => wipe σ2 [j] = wipe σ [j] ∧ tYes σ2 H2 fun b H3 =>
        if b = true then (tOp rIxS (tVar 2) (tCall sp_draw [] E0 (tCons (tVar 0) (tCons tl tNil)))) σ2 H3 fun y H4 => ∃ acc, H4 D = some (.lst acc) ∧ acc.length < sizeLine ∧ Nx (upd H4 D (.lst (acc ++ [y]))) else Nx H3) := by
  have nD2 := hD.new nD
  refine lc_range (lo := 0) (n := n) (fun i H' => ∃ cs : List Nat, Deck H' d g ∧ Kd d g H H' ∧ H' D = some (.lst ((cs.map one).map V.str)) ∧ cs.length = i ∧ ∀ c ∈ cs, c < 1000) ?_ ?_ ?_
  · exact ⟨[], hD.same (same_upd nD), Same.kd (same_upd nD), upd_same, rfl, fun _ h => absurd h List.not_mem_nil⟩
  · rintro i H1 hi ⟨cs, hD1, k1, eD, hl, low⟩
    have w : wipe ((wipe σ [j]).set j (some (.int (0 + (i : Int))))) [j] = wipe σ [j] := by
      show (((σ.set j none).set j (some (.int (0 + (i : Int))))).set j none) = σ.set j none
      rw [List.set_set, List.set_set]
    have t0 : ((wipe σ [j]).set j (some (.int (0 + (i : Int)))))[0]? = some (some (.ref d)) := by
      show ((σ.set j none).set j _)[0]? = _
      rw [List.getElem?_set_ne j0, List.getElem?_set_ne j0]
      exact s0
    have t2 : ((wipe σ [j]).set j (some (.int (0 + (i : Int)))))[2]? = some (some (.str sgs)) := by
      show ((σ.set j none).set j _)[2]? = _
      rw [List.getElem?_set_ne j2, List.getElem?_set_ne j2]
      exact s2
    refine ⟨w, _, t2, _, t0, ht _ _ _ t2 ⟨d, g, 94, rfl, hD1, by decide, by decide +kernel, fun r H2 r0 r1 hD2 k2 => ?_⟩⟩
    obtain ⟨m, rfl⟩ := Int.eq_ofNat_of_zero_le r0
    obtain ⟨c, ec, lc⟩ := sgs_at (r := m) (by omega)
    refine ⟨sgs, m, c, rfl, rfl, sgs_line, atI_nat ec, (cs.map one).map V.str, k2 _ _ eD nD2.1 nD2.2, ?_, cs ++ [c], ?_, ?_, ?_, ?_, ?_⟩
    · rw [List.length_map, List.length_map]; exact small1000 (by omega)
    · obtain ⟨gs, a, mm, h1, h2, h3⟩ := hD2
      exact ⟨gs, a, mm, by rw [upd_ne nD2.1.symm]; exact h1, by rw [upd_ne nD2.2.symm]; exact h2, h3⟩
    · intro b o e n1 n2
      rw [upd_ne (ne_of_none e nD)]
      exact k2 b o (k1 b o e n1 n2) n1 n2
    · rw [upd_same, List.map_append, List.map_append]; rfl
    · rw [List.length_append, hl]; rfl
    · intro c hc
      rcases List.mem_append.mp hc with h | h
      · exact low c h
      · have := List.mem_singleton.mp h
        omega
  · rintro H1 ⟨cs, hD1, k1, eD, hl, low⟩
    exact q H1 cs hD1 k1 eD hl low
def sp_strange : Sp := fun vs H Q _ => ∃ (d g t : Addr) (ts : List Str), vs = [.ref d, .ref t] ∧ Deck H d g ∧ Lat H d g t (ts.map V.str) ∧ TasksOk ts ∧ ∀ z H', Std H H' d g → Wo z → Q (.str z) H'
theorem ok_law_strange (T : Tx K w mg) : FnOk P w K mg base CX0 2 T.f_law_strange T.d_law_strange ["deck", "task_list"] sp_strange := by
  refine T.F_law_strange.ok sc_law_strange (fun vs H Q E h => ?_) (fun cdv A outer s H vs Q E hr h => ?_)
  · obtain ⟨d, g, t, ts, rfl, _⟩ := h
    rfl
  · obtain ⟨d, g, t, ts, rfl, hD, lt0, ok, k⟩ := h
    refine ⟨_,
    (pss_cons
      (ps_set (i := 2) sc_law_strange.nd rfl (.inr rfl) pe_str)
    (pss_cons
      (ps_set (i := 3) sc_law_strange.nd rfl (.inl rfl) (pe_call (ok_law_draw T) hr (by rfl) T.g_law_draw T.F_law_draw.kp T.b_law_draw .nil pass0 (pa_cons (pv 0) (pa_cons pe_int pa_nil))))
    (pss_cons
      (ps_set (i := 4) sc_law_strange.nd rfl (.inl rfl) (pe_ix ix_list (pv 1) (pe_call (ok_law_draw T) hr (by rfl) T.g_law_draw T.F_law_draw.kp T.b_law_draw .nil pass0 (pa_cons (pv 0) (pa_cons (pe_callB call_len_seq (by rfl) T.m_len (by decide +kernel) (pa_cons (pv 1) pa_nil)) pa_nil))) (fun _ _ => rfl)))
    (pss_cons
      (ps_set (i := 5) sc_law_strange.nd rfl (.inl rfl) (pe_call (ok_law_draw T) hr (by rfl) T.g_law_draw T.F_law_draw.kp T.b_law_draw .nil pass0 (pa_cons (pv 0) (pa_cons (pe_callB call_len_str (by rfl) T.m_len (by decide +kernel) (pa_cons (pv 4) pa_nil)) pa_nil))))
    (C8.pss_cut
      (ps_if (pt_cmpR op_eq (pv 3) pe_int (nomark _))
        (pss_one
          (ps_set (i := 4) sc_law_strange.nd rfl (.inl rfl) (pe_op op_add_str (pe_op op_add_str (pe_slice sl_str (pv 4) po_none (po_some (pv 5))) (pe_ix ix_str (pv 2) (pe_call (ok_law_draw T) hr (by rfl) T.g_law_draw T.F_law_draw.kp T.b_law_draw .nil pass0 (pa_cons (pv 0) (pa_cons (pe_callB call_len_str (by rfl) T.m_len (by decide +kernel) (pa_cons (pv 2) pa_nil)) pa_nil))) (fun _ _ => rfl))) (pe_slice sl_str (pv 4) (po_some (pe_op op_add (pv 5) pe_int)) po_none))))
        pss_nil)
    (C8.pss_cut
      (ps_if (pt_cmpR op_eq (pv 3) pe_int (nomark _))
        (pss_one
          (ps_set (i := 4) sc_law_strange.nd rfl (.inl rfl) (pe_op op_add_str (pe_slice sl_str (pv 4) po_none (po_some (pv 5))) (pe_slice sl_str (pv 4) (po_some (pe_op op_add (pv 5) pe_int)) po_none))))
        pss_nil)
    (C8.pss_cut
      (ps_if (pt_cmpR op_eq (pv 3) pe_int (nomark _))
        (pss_one
          (ps_set (i := 4) sc_law_strange.nd rfl (.inl rfl) (pe_join pe_str (pe_lc (own := [("k", 6)]) (g := gName 6) rfl sc_law_strange.nd (pi_range1 (by rfl) T.m_range (pa_cons (pe_call (ok_law_draw T) hr (by rfl) T.g_law_draw T.F_law_draw.kp T.b_law_draw .nil pass0 (pa_cons (pv 0) (pa_cons pe_int pa_nil))) pa_nil)) (blkOk_by (N := ["deck", "task_list", "signs", "way", "word", "at", "k"]) (sc := defScope s_law_strange) (own := [("k", 6)]) (by decide +kernel)) (fun _ _ _ _ _ => (pg_name (i := 6) sc_law_strange.nd rfl (.inl rfl))) (fun _ _ _ _ _ => pts_nil) (fun _ _ _ _ _ => (pe_ix ix_str (pv 2) (pe_call (ok_law_draw T) hr (by rfl) T.g_law_draw T.F_law_draw.kp T.b_law_draw .nil pass0 (pa_cons (pv 0) (pa_cons (pe_callB call_len_str (by rfl) T.m_len (by decide +kernel) (pa_cons (pv 2) pa_nil)) pa_nil))) (fun _ _ => rfl)))))))
        pss_nil)
    (pss_cons
      (ps_if (pt_cmpR op_in_seq (pv 4) (pv 1) (by rfl))
        (pss_one
          (ps_ret pe_str))
        pss_nil)
    (pss_one
      (ps_ret (pv 4))))))))))), ?_⟩
    have tne : 0 < ts.length := List.length_pos_iff.mpr ok.ne
    have tfew := ok.few
    refine ⟨_, rfl, d, g, 3, rfl, hD, by decide, by decide +kernel, fun way H1 w0 w1 hD1 k1 => ?_⟩
    have s1 := (Std.refl hD).draw hD1 k1
    refine ⟨_, rfl, _, rfl, _, rfl, t, _, rfl, .inl (.of (lt0.keep s1.kd).at_), d, g, _, rfl, hD1, ?_, ?_, fun p H2 p0 p1 hD2 k2 => ?_⟩
    · show (0 : Int) < ((ts.map V.str).length : Int)
      rw [List.length_map]; omega
    · exact small_log (by show (((ts.map V.str).length : Nat) : Int).natAbs < 1024; rw [List.length_map]; omega)
    have p2 : p < ((ts.map V.str).length : Int) := p1
    rw [List.length_map] at p2
    obtain ⟨p, rfl⟩ := Int.eq_ofNat_of_zero_le p0
    have s2 := s1.draw hD2 k2
    have hp : p < ts.length := by omega
    refine ⟨t, _, _, V.str ts[p], rfl, rfl, .of (lt0.keep s2.kd).at_, atI_nat (by rw [List.getElem?_map, List.getElem?_eq_getElem hp]; rfl), ?_⟩
    have nz := ok.nm _ (List.getElem_mem hp)
    generalize ts[p] = z at nz
    have zf := nz.few
    have zp := nz.pos
    refine ⟨_, rfl, _, rfl, _, rfl, str_line (by omega), d, g, _, rfl, hD2, ?_, ?_, fun a H3 a0 a1 hD3 k3 => ?_⟩
    · show (0 : Int) < (z.length : Int)
      omega
    · exact small_log (by show ((z.length : Nat) : Int).natAbs < 1024; omega)
    have a2 : a < (z.length : Int) := a1
    obtain ⟨a, rfl⟩ := Int.eq_ofNat_of_zero_le a0
    have s3 := s2.draw hD3 k3
    have zw := nz.wo
    have cT := cutS_length z none (some (a : Int))
    have cD := cutS_length z (some ((a : Int) + 1)) none
    have wD : Wo (cutS z (some ((a : Int) + 1)) none) := by
      rw [show (a : Int) + 1 = ((a + 1 : Nat) : Int) by omega]
      exact zw.cutD (a + 1)
    have wT := zw.cutT a
    have sl : (sgs.length : Int) = 94 := by rw [len_l, sgs_len]; rfl
    have sl0 : (0 : Int) < (sgs.length : Int) := by omega
    have sl1 : ((sgs.length : Nat) : Int).natAbs.log2 < 9000 := small_log (by omega)
    refine ⟨fun σ' H' => ∃ z, σ' = [some (.ref d), some (.ref t), some (.str sgs), some (.int way), some (.str z), some (.int (a : Int)), none] ∧ Std H H' d g ∧ Wo z ∧ z.length ≤ 100, ?_, ?_⟩
    · refine ⟨_, rfl, rfl, _, rfl, ite2 (fun c => ?_) (fun c => ⟨z, rfl, s3, zw, by omega⟩)⟩
      refine ⟨_, rfl, _, rfl, _, rfl, z, rfl, str_line (by omega), _, rfl, _, rfl, _, rfl, _, rfl, sgs_line, d, g, _, rfl, s3.dk, sl0, sl1, fun r H4 r0 r1 hD4 k4 => ?_⟩
      obtain ⟨r, rfl⟩ := Int.eq_ofNat_of_zero_le r0
      obtain ⟨c, ec, lc⟩ := sgs_at (r := r) (by have : (r : Int) < (sgs.length : Int) := r1; omega)
      have wc := Wo.one lc
      refine ⟨sgs, r, c, rfl, rfl, sgs_line, atI_nat ec, _, _, rfl, rfl, str_line (by show _ + 1 ≤ 1000; omega), _, rfl, _, rfl, _, _, rfl, rfl, _, rfl, z, rfl, str_line (by omega), _, _, rfl, rfl, str_line ?_, _, rfl, s3.draw hD4 k4, (wT.app wc).app wD, ?_⟩
      · rw [len_l, l_app, List.length_append, ← len_l, ← len_l]
        show _ + 1 + _ ≤ 1000
        omega
      · rw [len_l, l_app, l_app, List.length_append, List.length_append, ← len_l, ← len_l, ← len_l]
        show _ + 1 + _ ≤ 100
        omega
    clear wD wT zw cT cD nz zp zf sl sl0 sl1
    have sl : (sgs.length : Int) = 94 := by rw [len_l, sgs_len]; rfl
    rintro σ H4 ⟨z, rfl, s4, zw, zl⟩
    refine ⟨fun σ' H' => ∃ z, σ' = [some (.ref d), some (.ref t), some (.str sgs), some (.int way), some (.str z), some (.int (a : Int)), none] ∧ Std H H' d g ∧ Wo z ∧ z.length ≤ 200, ?_, ?_⟩
    · refine ⟨_, rfl, rfl, _, rfl, ite2 (fun c => ?_) (fun c => ⟨z, rfl, s4, zw, by omega⟩)⟩
      have cT := cutS_length z none (some (a : Int))
      have cD := cutS_length z (some ((a : Int) + 1)) none
      have wD : Wo (cutS z (some ((a : Int) + 1)) none) := by
        rw [show (a : Int) + 1 = ((a + 1 : Nat) : Int) by omega]
        exact zw.cutD (a + 1)
      refine ⟨_, rfl, _, rfl, _, rfl, z, rfl, str_line (by omega), _, rfl, _, rfl, _, _, rfl, rfl, _, rfl, z, rfl, str_line (by omega), _, _, rfl, rfl, str_line (by omega), _, rfl, s4, (zw.cutT a).app wD, ?_⟩
      rw [len_l, l_app, List.length_append, ← len_l, ← len_l]
      omega
    rintro σ H5 ⟨z, rfl, s5, zw, zl⟩
    refine ⟨fun σ' H' => ∃ z, σ' = [some (.ref d), some (.ref t), some (.str sgs), some (.int way), some (.str z), some (.int (a : Int)), none] ∧ Std H H' d g ∧ Wo z, ?_, ?_⟩
    · refine ⟨_, rfl, rfl, _, rfl, ite2 (fun c => ?_) (fun c => ⟨z, rfl, s5, zw⟩)⟩
      refine ⟨⟨_, rfl⟩, _, rfl, d, g, 101, rfl, s5.dk, by decide, by decide +kernel, fun m H6 m0 m1 hD6 k6 => ⟨_, rfl, by omega, by omega, fun J hJ => ?_⟩⟩
      refine lc_signs (n := m.toNat) (by omega) rfl rfl (by decide) (by decide) hD6 hJ (fun σ' H' Q h2 hq => ⟨_, h2, sgs, rfl, sgs_line, by rw [sl]; exact hq⟩) fun H7 cs hD7 k7 eJ cl low => ?_
      exact ⟨_, J, cs.map one, rfl, rfl, .inl (.of eJ), join_room cs (by omega), _, rfl, (s5.draw hD6 k6).draw hD7 k7, Wo.join low⟩
    rintro σ H6 ⟨z, rfl, s6, zw⟩
    refine ⟨_, rfl, _, rfl, t, _, rfl, .inl (.of (lt0.keep s6.kd).at_), rfl, flat_strs _, _, rfl, ite2 (fun c => k _ _ s6 ?_) (fun c => ⟨_, rfl, k _ _ s6 zw⟩)⟩
    unfold Wo
    decide +kernel
/-- a list of words of its own -/
structure Wl (H0 H' : Hp) (d g R : Addr) (l : List Str) (m n : Nat) : Prop where
  sd : Std H0 H' d g
  f0 : H0 R = none
  nd : R ≠ d
  ng : R ≠ g
  eR : H' R = some (.lst (l.map V.str))
  lo : m ≤ l.length
  hi : l.length ≤ n
  ok : ∀ z ∈ l, PyData.canLay0 (.str z) = true
theorem Wl.std {H0 H1 H2 : Hp} {d g R : Addr} {l : List Str} {m n : Nat} (h : Wl H0 H1 d g R l m n) (s : Std H1 H2 d g) : Wl H0 H2 d g R l m n := ⟨h.sd.trans s, h.f0, h.nd, h.ng, s.kd _ _ h.eR h.nd h.ng, h.lo, h.hi, h.ok⟩
theorem Wl.new {H0 H1 : Hp} {d g R : Addr} {l : List Str} {m n : Nat} (s : Std H0 H1 d g) (hR : H1 R = none) (lo : m ≤ l.length) (hi : l.length ≤ n) (ok : ∀ z ∈ l, PyData.canLay0 (.str z) = true) : Wl H0 (upd H1 R (.lst (l.map V.str))) d g R l m n :=
  ⟨s.new hR, s.free hR, (s.dk.new hR).1, (s.dk.new hR).2, upd_same, lo, hi, ok⟩
theorem Wl.put {H0 H1 : Hp} {d g R : Addr} {l l' : List Str} {m n m' n' : Nat} (h : Wl H0 H1 d g R l m n) (lo : m' ≤ l'.length) (hi : l'.length ≤ n') (ok : ∀ z ∈ l', PyData.canLay0 (.str z) = true) : Wl H0 (upd H1 R (.lst (l'.map V.str))) d g R l' m' n' :=
  ⟨h.sd.mut h.f0 h.nd h.ng, h.f0, h.nd, h.ng, upd_same, lo, hi, ok⟩
theorem Wl.wide {H0 H1 : Hp} {d g R : Addr} {l : List Str} {m n m' n' : Nat} (h : Wl H0 H1 d g R l m n) (a : m' ≤ m) (b : n ≤ n') : Wl H0 H1 d g R l m' n' := ⟨h.sd, h.f0, h.nd, h.ng, h.eR, Nat.le_trans a h.lo, Nat.le_trans h.hi b, h.ok⟩
theorem ok_set {l : List Str} {z : Str} (h : ∀ z ∈ l, PyData.canLay0 (.str z) = true) (hz : PyData.canLay0 (.str z) = true) (i : Nat) : ∀ y ∈ l.set i z, PyData.canLay0 (.str y) = true := fun y hy => by
  rcases List.mem_or_eq_of_mem_set hy with a | a
  · exact h y a
  · rw [a]; exact hz
theorem rule_len {ts l : List Str} (h : RuleOk ts l) : 2 ≤ l.length ∧ l.length ≤ 3 := by
  rcases h with ⟨k, x, h1, h2, rfl⟩ | ⟨k, x, y, h1, h2, h3, h4, rfl⟩
  · exact ⟨by simp, by simp⟩
  · exact ⟨by simp, by simp⟩
theorem all_ok {l : List Str} (h : (l.all fun z => PyData.canLay0 (.str z)) = true) : ∀ z ∈ l, PyData.canLay0 (.str z) = true := List.all_eq_true.mp h
def kdx : List Str := ["", "Before", "befor", "before ", "FIRST", "lasts", "while"]
theorem kdx_ok : (kdx.all fun z => PyData.canLay0 (.str z)) = true := by decide +kernel
def kd8 : List Str := ["before", "upto", "same", "apart", "far", "next", "first", "last"]
theorem kd8_ok : (kd8.all fun z => PyData.canLay0 (.str z)) = true := by decide +kernel
def sx : List Str := ["before", "upto", "same", "apart", "far", "next"]
theorem sx_ok : (sx.all fun z => PyData.canLay0 (.str z)) = true := by decide +kernel
def sp_bad : Sp := fun vs H Q _ => ∃ (d g t : Addr) (ts : List Str), vs = [.ref d, .ref t] ∧ Deck H d g ∧ Lat H d g t (ts.map V.str) ∧ TasksOk ts ∧
  ∀ (a : Addr) (l : List Str) H', Std H H' d g → H' a = some (.tup (l.map V.str)) → (∀ z ∈ l, PyData.canLay0 (.str z) = true) → Q (.ref a) H'
theorem ok_law_bad_rule (T : Tx K w mg) : FnOk P w K mg base CX0 3 T.f_law_bad_rule T.d_law_bad_rule ["deck", "task_list"] sp_bad := by
  refine T.F_law_bad_rule.ok sc_law_bad_rule (fun vs H Q E h => ?_) (fun cdv A outer s H vs Q E hr h => ?_)
  · obtain ⟨d, g, t, ts, rfl, _⟩ := h
    rfl
  · obtain ⟨d, g, t, ts, rfl, hD, lt0, ok, k⟩ := h
    refine ⟨_,
    (pss_cons
      (ps_set (i := 2) sc_law_bad_rule.nd rfl (.inl rfl) (pe_callTy call_list_of (by rfl) T.m_list (by decide +kernel) (pa_cons (pe_call (ok_law_rule T) hr (by rfl) T.g_law_rule T.F_law_rule.kp T.b_law_rule .nil pass0 (pa_cons (pv 0) (pa_cons (pv 1) pa_nil))) pa_nil)))
    (pss_cons
      (ps_set (i := 3) sc_law_bad_rule.nd rfl (.inl rfl) (pe_call (ok_law_draw T) (hr.mono (by decide)) (by rfl) T.g_law_draw T.F_law_draw.kp T.b_law_draw .nil pass0 (pa_cons (pv 0) (pa_cons pe_int pa_nil))))
    (C8.pss_cut
      (ps_if (pt_cmpR op_in_seq (pv 3) (pe_tup (pa_cons pe_int (pa_cons pe_int pa_nil))) (by rfl))
        (pss_cons
          (ps_set (i := 4) sc_law_bad_rule.nd rfl (.inl rfl) (pe_ix ix_list (pe_lst (pa_cons pe_str (pa_cons pe_str (pa_cons pe_str (pa_cons pe_str (pa_cons pe_str (pa_cons pe_str (pa_cons pe_str (pa_cons (pe_ix ix_list (pv 1) pe_int (fun _ _ => rfl)) pa_nil))))))))) (pe_call (ok_law_draw T) (hr.mono (by decide)) (by rfl) T.g_law_draw T.F_law_draw.kp T.b_law_draw .nil pass0 (pa_cons (pv 0) (pa_cons pe_int pa_nil))) (fun _ _ => rfl)))
        (pss_one
          (ps_if (pt_cmpR op_notIn_seq (pv 4) (pe_tup (pa_cons pe_str (pa_cons pe_str (pa_cons pe_str (pa_cons pe_str (pa_cons pe_str (pa_cons pe_str (pa_cons pe_str (pa_cons pe_str pa_nil))))))))) (by rfl))
            (pss_one
              (ps_asg (pv 4) (pg_sub (pv 2) pe_int set_list)))
            pss_nil)))
        pss_nil)
    (C8.pss_cut
      (ps_if (pt_cmpR op_eq (pv 3) pe_int (nomark _))
        (pss_one
          (ps_for PassesOwn.never rfl (pi_range1 (by rfl) T.m_range (pa_cons (pe_op op_add pe_int (pe_call (ok_law_draw T) (hr.mono (by decide)) (by rfl) T.g_law_draw T.F_law_draw.kp T.b_law_draw .nil pass0 (pa_cons (pv 0) (pa_cons pe_int pa_nil)))) pa_nil)) (pg_name (i := 5) sc_law_bad_rule.nd rfl (.inl rfl))
            (pss_one
              (ps_expr (pe_bm PySem.F.plainAttrs_list PySem.F.slot_list_append PySem.F.type_list_append mt_append (pv 2) (pa_cons (pe_ix ix_list (pv 1) (pe_call (ok_law_draw T) (hr.mono (by decide)) (by rfl) T.g_law_draw T.F_law_draw.kp T.b_law_draw .nil pass0 (pa_cons (pv 0) (pa_cons (pe_callB call_len_seq (by rfl) T.m_len (by decide +kernel) (pa_cons (pv 1) pa_nil)) pa_nil))) (fun _ _ => rfl)) pa_nil))))))
        pss_nil)
    (C8.pss_cut
      (ps_if (pt_cmpR op_eq (pv 3) pe_int (nomark _))
        (pss_one
          (ps_expr (pe_bm0 PySem.F.plainAttrs_list PySem.F.slot_list_pop PySem.F.type_list_pop mt_pop (pv 2))))
        pss_nil)
    (C8.pss_cut
      (ps_if (pt_cmpR op_in_seq (pv 3) (pe_tup (pa_cons pe_int (pa_cons pe_int (pa_cons pe_int pa_nil)))) (by rfl))
        (pss_one
          (ps_asg (pe_call (ok_law_strange T) hr (by rfl) T.g_law_strange T.F_law_strange.kp T.b_law_strange .nil pass0 (pa_cons (pv 0) (pa_cons (pv 1) pa_nil))) (pg_sub (pv 2) (pe_op op_sub (pe_callB call_len_seq (by rfl) T.m_len (by decide +kernel) (pa_cons (pv 2) pa_nil)) pe_int) set_list)))
        pss_nil)
    (C8.pss_cut
      (ps_if (pt_cmpR op_in_seq (pv 3) (pe_tup (pa_cons pe_int (pa_cons pe_int pa_nil))) (by rfl))
        (pss_cons
          (ps_set (i := 2) sc_law_bad_rule.nd rfl (.inl rfl) (pe_lst (pa_cons pe_str (pa_cons (pe_ix ix_list (pv 2) pe_int (fun _ _ => rfl)) (pa_cons (pe_ix ix_list (pv 2) (pe_op op_sub (pe_callB call_len_seq (by rfl) T.m_len (by decide +kernel) (pa_cons (pv 2) pa_nil)) pe_int) (fun _ _ => rfl)) pa_nil)))))
        (pss_one
          (ps_asg (pe_call (ok_law_strange T) hr (by rfl) T.g_law_strange T.F_law_strange.kp T.b_law_strange .nil pass0 (pa_cons (pv 0) (pa_cons (pv 1) pa_nil))) (pg_sub (pv 2) pe_int set_list))))
        pss_nil)
    (C8.pss_cut
      (ps_if (pt_cmpR op_eq (pv 3) pe_int (nomark _))
        (pss_one
          (ps_set (i := 2) sc_law_bad_rule.nd rfl (.inl rfl) (pe_lst (pa_cons (pe_ix ix_list (pe_lst (pa_cons pe_str (pa_cons pe_str (pa_cons pe_str (pa_cons pe_str (pa_cons pe_str (pa_cons pe_str pa_nil))))))) (pe_call (ok_law_draw T) (hr.mono (by decide)) (by rfl) T.g_law_draw T.F_law_draw.kp T.b_law_draw .nil pass0 (pa_cons (pv 0) (pa_cons pe_int pa_nil))) (fun _ _ => rfl)) (pa_cons (pe_ix ix_list (pv 2) pe_int (fun _ _ => rfl)) (pa_cons (pe_ix ix_list (pv 2) pe_int (fun _ _ => rfl)) pa_nil))))))
        pss_nil)
    (C8.pss_cut
      (ps_if (pt_cmpR op_eq (pe_call (ok_law_draw T) (hr.mono (by decide)) (by rfl) T.g_law_draw T.F_law_draw.kp T.b_law_draw .nil pass0 (pa_cons (pv 0) (pa_cons pe_int pa_nil))) pe_int (nomark _))
        (pss_one
          (ps_set (i := 2) sc_law_bad_rule.nd rfl (.inl rfl) (pe_lst (pa_cons pe_str (pa_cons pe_str (pa_cons pe_str pa_nil))))))
        pss_nil)
    (pss_one
      (ps_ret (pe_callTy call_tuple_of (by rfl) T.m_tuple (by decide +kernel) (pa_cons (pv 2) pa_nil))))))))))))), ?_⟩
    have tne : 0 < ts.length := List.length_pos_iff.mpr ok.ne
    have tfew := ok.few
    have nok : ∀ z ∈ ts, PyData.canLay0 (.str z) = true := fun z hz => nm_ok (ok.nm z hz)
    have noc : PyData.canLay0 (.str ("No" : Str)) = true := by decide +kernel
    refine ⟨_, rfl, _, rfl, d, g, t, ts, rfl, hD, lt0, ok, fun a l H1 s1 fa ea rok => ⟨a, _, rfl, .inr (.of ea), fun R hR => ?_⟩⟩
    obtain ⟨l2, l3⟩ := rule_len rok
    have w1 : Wl H _ d g R l 2 3 := Wl.new s1 hR l2 l3 (rule_ok ok rok)
    generalize upd H1 R (.lst (l.map V.str)) = H2 at w1
    refine ⟨_, rfl, d, g, 8, rfl, w1.sd.dk, by decide, by decide +kernel, fun way H3 w0 w8 hD3 k3 => ?_⟩
    have w3 := w1.std ((Std.refl w1.sd.dk).draw hD3 k3)
    clear w1 k3 hD3 l2 l3 rok ea fa s1 hR
    refine ⟨fun σ' H' => ∃ (l : List Str) (x4 : Option V), σ' = [some (.ref d), some (.ref t), some (.ref R), some (.int way), x4, none] ∧ Wl H H' d g R l 2 3, ?_, ?_⟩
    · refine ⟨_, rfl, (by show 2 ≤ sizeLine; decide), fun U hU => ⟨U, _, rfl, .inr (.of upd_same), rfl, rfl, _, rfl, ?_⟩⟩
      have w4 := w3.std ((Std.refl w3.sd.dk).new (o := .tup [.int 0, .int 6]) hU)
      refine ite2 (fun c => ?_) (fun c => ⟨l, none, rfl, w4⟩)
      generalize upd H3 U (.tup [.int 0, .int 6]) = H4 at w4
      have lt4 := lt0.keep w4.sd.kd
      refine ⟨_, rfl, t, _, _, V.str ts[0], rfl, rfl, .of lt4.at_, atI_nat (j := 0) (by rw [List.getElem?_map, List.getElem?_eq_getElem tne]; rfl), (by show 8 ≤ sizeLine; decide), fun L hL => ?_⟩
      have w5 := w4.std ((Std.refl w4.sd.dk).new (o := .lst ((kdx ++ [ts[0]]).map V.str)) hL)
      have lk : Lat (upd H4 L (.lst ((kdx ++ [ts[0]]).map V.str))) d g L ((kdx ++ [ts[0]]).map V.str) := Lat.new w4.sd.dk hL
      refine ⟨_, rfl, d, g, 8, rfl, w5.sd.dk, by decide, by decide +kernel, fun r H5 r0 r1 hD5 k5 => ?_⟩
      obtain ⟨r, rfl⟩ := Int.eq_ofNat_of_zero_le r0
      have w6 := w5.std ((Std.refl w5.sd.dk).draw hD5 k5)
      have hr8 : r < (kdx ++ [ts[0]]).length := by show r < 8; omega
      have okz : PyData.canLay0 (.str (kdx ++ [ts[0]])[r]) = true := by
        rcases List.mem_append.mp (List.getElem_mem hr8) with h | h
        · exact all_ok kdx_ok _ h
        · rw [List.mem_singleton.mp h]
          exact nok _ (List.getElem_mem tne)
      refine ⟨L, _, _, V.str (kdx ++ [ts[0]])[r], rfl, rfl, .of (lk.keep k5).at_, atI_nat (by rw [List.getElem?_map, List.getElem?_eq_getElem hr8]; rfl), ?_⟩
      generalize (kdx ++ [ts[0]])[r] = z at okz
      refine ⟨_, rfl, (by show 8 ≤ sizeLine; decide), fun U2 hU2 => ⟨U2, _, rfl, .inr (.of upd_same), rfl, flat_strs kd8, _, rfl, ?_⟩⟩
      have w7 := w6.std ((Std.refl w6.sd.dk).new (o := .tup (kd8.map V.str)) hU2)
      refine ite2 (fun c => ?_) (fun c => ⟨l, _, rfl, w7⟩)
      refine ⟨_, rfl, _, rfl, R, _, _, 0, rfl, rfl, w7.eR, ixN_nat (j := 0) (by rw [List.length_map]; exact Nat.lt_of_lt_of_le (by decide) w7.lo), l.set 0 z, _, rfl, ?_⟩
      rw [← List.map_set]
      exact w7.put (by rw [List.length_set]; exact w7.lo) (by rw [List.length_set]; exact w7.hi) (ok_set w7.ok okz 0)
    clear w3
    clear l
    rintro σ H4 ⟨l, x4, rfl, w4⟩
    refine ⟨fun σ' H' => ∃ (l : List Str) (x4 x5 : Option V), σ' = [some (.ref d), some (.ref t), some (.ref R), some (.int way), x4, x5] ∧ Wl H H' d g R l 2 7, ?_, ?_⟩
    · refine ⟨_, rfl, rfl, _, rfl, ite2 (fun c => ?_) (fun c => ⟨l, _, _, rfl, w4.wide (by omega) (by omega)⟩)⟩
      refine ⟨_, rfl, d, g, 4, rfl, w4.sd.dk, by decide, by decide +kernel, fun m H5 m0 m1 hD5 k5 => ⟨_, _, rfl, rfl, _, rfl, by omega, by omega, ?_⟩⟩
      have w5 := w4.std ((Std.refl w4.sd.dk).draw hD5 k5)
      refine for_range (n := (1 + m).toNat) (fun i σ H' => ∃ (l : List Str) (x5 : Option V), σ = [some (.ref d), some (.ref t), some (.ref R), some (.int way), x4, x5] ∧ Wl H H' d g R l 2 (3 + i)) ⟨l, _, rfl, w5⟩ ?_ ?_
      · rintro i σ H6 hi ⟨l, x5, rfl, w6⟩
        have lt6 := lt0.keep w6.sd.kd
        refine ⟨_, rfl, .inl ⟨rfl, _, .of w6.eR⟩, _, rfl, _, rfl, _, rfl, t, _, rfl, .inl (.of lt6.at_), d, g, _, rfl, w6.sd.dk, ?_, ?_, fun p H7 p0 p1 hD7 k7 => ?_⟩
        · show (0 : Int) < ((ts.map V.str).length : Int)
          rw [List.length_map]; omega
        · exact small_log (by show (((ts.map V.str).length : Nat) : Int).natAbs < 1024; rw [List.length_map]; omega)
        have p2 : p < ((ts.map V.str).length : Int) := p1
        rw [List.length_map] at p2
        obtain ⟨p, rfl⟩ := Int.eq_ofNat_of_zero_le p0
        have hp : p < ts.length := by omega
        have w7 := w6.std ((Std.refl w6.sd.dk).draw hD7 k7)
        refine ⟨t, _, _, V.str ts[p], rfl, rfl, .of (lt6.keep k7).at_, atI_nat (by rw [List.getElem?_map, List.getElem?_eq_getElem hp]; rfl), R, _, _, rfl, rfl, w7.eR, ?_, l ++ [ts[p]], _, rfl, ?_⟩
        · rw [List.length_map]; have := w7.hi; exact small1000 (by omega)
        · show Wl H (upd H7 R (.lst (l.map V.str ++ [V.str ts[p]]))) d g R (l ++ [ts[p]]) 2 (3 + (i + 1))
          rw [show l.map V.str ++ [V.str ts[p]] = (l ++ [ts[p]]).map V.str by rw [List.map_append]; rfl]
          refine w7.put ?_ ?_ ?_
          · rw [List.length_append]; have := w7.lo; omega
          · rw [List.length_append]; have := w7.hi; show _ + 1 ≤ _; omega
          · intro z hz
            rcases List.mem_append.mp hz with h | h
            · exact w7.ok z h
            · rw [List.mem_singleton.mp h]; exact nok _ (List.getElem_mem hp)
      · rintro σ H6 ⟨l, x5, rfl, w6⟩
        exact ⟨l, _, _, rfl, w6.wide (by omega) (by omega)⟩
    clear w4
    clear l x4 H4
    rintro σ H4 ⟨l, x4, x5, rfl, w4⟩
    refine ⟨fun σ' H' => ∃ (l : List Str), σ' = [some (.ref d), some (.ref t), some (.ref R), some (.int way), x4, x5] ∧ Wl H H' d g R l 1 7 ∧ (way ≠ 2 → 2 ≤ l.length), ?_, ?_⟩
    · refine ⟨_, rfl, rfl, _, rfl, ite2 (fun c => ?_) (fun c => ⟨l, rfl, w4.wide (by omega) (by omega), fun _ => w4.lo⟩)⟩
      have c2 : way = 2 := V.int.inj (of_decide_eq_true c)
      have ll := w4.lo
      have hl : l.length - 1 < l.length := by omega
      refine ⟨_, rfl, .inl ⟨rfl, _, .of w4.eR⟩, R, _, V.str l[l.length - 1], rfl, rfl, w4.eR, by rw [List.length_map, List.getElem?_map, List.getElem?_eq_getElem hl]; rfl, l.dropLast, rfl, ?_, fun n => absurd c2 n⟩
      rw [← List.map_dropLast]
      exact w4.put (by rw [List.length_dropLast]; omega) (by rw [List.length_dropLast]; have := w4.hi; omega) (fun z hz => w4.ok z ((List.dropLast_sublist l).subset hz))
    clear w4
    clear l H4
    rintro σ H4 ⟨l, rfl, w4, len⟩
    refine ⟨fun σ' H' => ∃ (l : List Str), σ' = [some (.ref d), some (.ref t), some (.ref R), some (.int way), x4, x5] ∧ Wl H H' d g R l 1 7 ∧ (way ≠ 2 → 2 ≤ l.length), ?_, ?_⟩
    · refine ⟨_, rfl, (by show 3 ≤ sizeLine; decide), fun U hU => ⟨U, _, rfl, .inr (.of upd_same), rfl, rfl, _, rfl, ?_⟩⟩
      have w5 := w4.std ((Std.refl w4.sd.dk).new (o := .tup [.int 3, .int 6, .int 7]) hU)
      refine ite2 (fun c => ?_) (fun c => ⟨l, rfl, w5, len⟩)
      generalize upd H4 U (.tup [.int 3, .int 6, .int 7]) = H5 at w5
      refine ⟨_, rfl, _, rfl, d, g, t, ts, rfl, w5.sd.dk, lt0.keep w5.sd.kd, ok, fun z H6 s6 wz => ?_⟩
      have w6 := w5.std s6
      have ll := w6.lo
      refine ⟨_, rfl, _, rfl, R, _, rfl, .inl (.of w6.eR), _, _, rfl, rfl, R, _, _, l.length - 1, rfl, rfl, w6.eR, ?_, l.set (l.length - 1) z, rfl, ?_, fun n => by rw [List.length_set]; exact len n⟩
      · rw [show ((l.map V.str).length : Int) - 1 = ((l.length - 1 : Nat) : Int) by rw [List.length_map]; omega]
        exact ixN_nat (by rw [List.length_map]; omega)
      rw [← List.map_set]
      exact w6.put (by rw [List.length_set]; exact w6.lo) (by rw [List.length_set]; exact w6.hi) (ok_set w6.ok wz.ok _)
    clear w4 len
    clear l H4
    rintro σ H4 ⟨l, rfl, w4, len⟩
    refine ⟨fun σ' H' => ∃ (R : Addr) (l : List Str), σ' = [some (.ref d), some (.ref t), some (.ref R), some (.int way), x4, x5] ∧ Wl H H' d g R l 1 7 ∧ (way ≠ 2 → 2 ≤ l.length), ?_, ?_⟩
    · refine ⟨_, rfl, (by show 2 ≤ sizeLine; decide), fun U hU => ⟨U, _, rfl, .inr (.of upd_same), rfl, rfl, _, rfl, ?_⟩⟩
      have w5 := w4.std ((Std.refl w4.sd.dk).new (o := .tup [.int 4, .int 7]) hU)
      refine ite2 (fun c => ?_) (fun c => ⟨R, l, rfl, w5, len⟩)
      have l2 : 2 ≤ l.length := len (fun e => by subst e; revert c; decide)
      generalize upd H4 U (.tup [.int 4, .int 7]) = H5 at w5
      refine ⟨_, rfl, R, _, _, V.str l[1], rfl, rfl, .of w5.eR, atI_nat (j := 1) (by rw [List.getElem?_map, List.getElem?_eq_getElem (by omega)]; rfl), _, rfl, _, rfl, R, _, rfl, .inl (.of w5.eR), _, _, rfl, rfl, R, _, _, V.str l[l.length - 1], rfl, rfl, .of w5.eR, at_of (j := l.length - 1) ?_ (by rw [List.getElem?_map, List.getElem?_eq_getElem (by omega)]; rfl), (by show 3 ≤ sizeLine; decide), fun R2 hR2 => ?_⟩
      · show ((l.map V.str).length : Int) - 1 = ((l.length - 1 : Nat) : Int)
        rw [List.length_map]; omega
      have w6 : Wl H _ d g R2 [("next" : Str), l[1], l[l.length - 1]] 3 3 := Wl.new w5.sd hR2 (Nat.le_refl _) (Nat.le_refl _) (fun z hz => by
        simp only [List.mem_cons, List.not_mem_nil, or_false] at hz
        rcases hz with rfl | rfl | rfl
        · decide +kernel
        · exact w5.ok _ (List.getElem_mem _)
        · exact w5.ok _ (List.getElem_mem _))
      refine ⟨_, rfl, _, rfl, d, g, t, ts, rfl, w6.sd.dk, lt0.keep w6.sd.kd, ok, fun z H6 s6 wz => ?_⟩
      have w7 := w6.std s6
      generalize [("next" : Str), l[1], l[l.length - 1]] = l3 at w7
      have ll := w7.lo
      refine ⟨_, rfl, R2, _, _, 1, rfl, rfl, w7.eR, ixN_nat (j := 1) (by rw [List.length_map]; omega), R2, l3.set 1 z, rfl, ?_, fun _ => by rw [List.length_set]; omega⟩
      rw [← List.map_set]
      exact w7.put (by rw [List.length_set]; omega) (by rw [List.length_set]; have := w7.hi; omega) (ok_set w7.ok wz.ok _)
    clear w4 len
    clear l H4 R
    rintro σ H4 ⟨R, l, rfl, w4, len⟩
    refine ⟨fun σ' H' => ∃ (R : Addr) (l : List Str), σ' = [some (.ref d), some (.ref t), some (.ref R), some (.int way), x4, x5] ∧ Wl H H' d g R l 1 7, ?_, ?_⟩
    · refine ⟨_, rfl, rfl, _, rfl, ite2 (fun c => ?_) (fun c => ⟨R, l, rfl, w4⟩)⟩
      have c2 : way = 5 := V.int.inj (of_decide_eq_true c)
      have l2 : 2 ≤ l.length := len (by omega)
      refine ⟨(by show 6 ≤ sizeLine; decide), fun L hL => ?_⟩
      have w5 := w4.std ((Std.refl w4.sd.dk).new (o := .lst (sx.map V.str)) hL)
      have lk : Lat (upd H4 L (.lst (sx.map V.str))) d g L (sx.map V.str) := Lat.new w4.sd.dk hL
      refine ⟨_, rfl, d, g, 6, rfl, w5.sd.dk, by decide, by decide +kernel, fun r H5 r0 r1 hD5 k5 => ?_⟩
      obtain ⟨r, rfl⟩ := Int.eq_ofNat_of_zero_le r0
      have w6 := w5.std ((Std.refl w5.sd.dk).draw hD5 k5)
      have hr6 : r < sx.length := by show r < 6; omega
      have okz : PyData.canLay0 (.str sx[r]) = true := all_ok sx_ok _ (List.getElem_mem hr6)
      refine ⟨L, _, _, V.str sx[r], rfl, rfl, .of (lk.keep k5).at_, atI_nat (by rw [List.getElem?_map, List.getElem?_eq_getElem hr6]; rfl), ?_⟩
      generalize sx[r] = z at okz
      refine ⟨_, rfl, R, _, _, V.str l[1], rfl, rfl, .of w6.eR, atI_nat (j := 1) (by rw [List.getElem?_map, List.getElem?_eq_getElem (by omega)]; rfl), _, rfl, R, _, _, V.str l[1], rfl, rfl, .of w6.eR, atI_nat (j := 1) (by rw [List.getElem?_map, List.getElem?_eq_getElem (by omega)]; rfl), (by show 3 ≤ sizeLine; decide), fun R2 hR2 => ?_⟩
      have w7 : Wl H _ d g R2 [z, l[1], l[1]] 1 7 := Wl.new w6.sd hR2 (by simp) (by simp) (fun y hy => by
        simp only [List.mem_cons, List.not_mem_nil, or_false] at hy
        rcases hy with rfl | rfl | rfl
        · exact okz
        · exact w6.ok _ (List.getElem_mem _)
        · exact w6.ok _ (List.getElem_mem _))
      exact ⟨R2, _, rfl, w7⟩
    clear w4 len
    clear l H4 R
    rintro σ H4 ⟨R, l, rfl, w4⟩
    refine ⟨fun σ' H' => ∃ (R : Addr) (l : List Str), σ' = [some (.ref d), some (.ref t), some (.ref R), some (.int way), x4, x5] ∧ Wl H H' d g R l 1 7, ?_, ?_⟩
    · refine ⟨_, rfl, d, g, 8, rfl, w4.sd.dk, by decide, by decide +kernel, fun r H5 r0 r1 hD5 k5 => ⟨rfl, _, rfl, ?_⟩⟩
      have w5 := w4.std ((Std.refl w4.sd.dk).draw hD5 k5)
      refine ite2 (fun c => ?_) (fun c => ⟨R, l, rfl, w5⟩)
      refine ⟨(by show 3 ≤ sizeLine; decide), fun R2 hR2 => ?_⟩
      have w6 : Wl H _ d g R2 [("same" : Str), "No", "No"] 1 7 := Wl.new w5.sd hR2 (by simp) (by simp) (all_ok (by decide +kernel))
      exact ⟨R2, _, rfl, w6⟩
    clear w4
    clear l H4 R
    rintro σ H4 ⟨R, l, rfl, w4⟩
    refine ⟨_, rfl, R, _, rfl, .inl ⟨.of w4.eR, fun u hu => ?_⟩⟩
    exact k u l _ (w4.sd.new hu) upd_same w4.ok
/-! ### asked -/
theorem eqv_rd (l m : List Str) : PyData.eqv (rdata l) (rdata m) = decide (l = m) := eqvAll_strs l m
theorem any_rules (l : List Str) : ∀ ls : List (List Str), ((ls.map rdata).any fun z => PyData.eqv z (rdata l)) = decide (l ∈ ls)
  | [] => rfl
  | a :: r => by
    rw [List.map_cons, List.any_cons, any_rules l r, eqv_rd]
    by_cases e : a = l
    · simp [e]
    · have : ¬ l = a := fun z => e z.symm
      simp [e, this]
theorem cnt_rules (l : List Str) (ls : List (List Str)) : (ls.map rdata).countP (fun z => PyData.eqv z (rdata l)) = ls.countP fun m => decide (m = l) := by
  rw [List.countP_map]
  congr 1
  funext m
  exact eqv_rd m l
theorem cnt_pos (l : List Str) (ls : List (List Str)) : decide (0 < ls.countP fun m => decide (m = l)) = decide (l ∈ ls) := by
  refine decide_eq_decide.mpr ?_
  rw [List.countP_pos_iff]
  constructor
  · rintro ⟨a, ha, e⟩
    rw [← of_decide_eq_true e]; exact ha
  · exact fun h => ⟨l, h, decide_eq_true rfl⟩
theorem rd_ok {l : List Str} (h : ∀ z ∈ l, PyData.canLay0 (.str z) = true) : SeqAt.shaped (rdata l) = true := by
  unfold SeqAt.shaped
  rw [Bool.and_eq_true]
  have h2 := depth_strs l
  exact ⟨lay_strs h, decide_eq_true (by simp only [rdata, PyData.depth]; omega)⟩
def sp_contains (K : PySem.W.Frag) (C : Addr) : Sp := fun vs H Q _ => ∃ (b u : Addr) (ts l : List Str) (ls : List (List Str)), vs = [.ref b, .ref u] ∧ BkR K C H b ts ls ∧ TasksOk ts ∧ H u = some (.tup (l.map V.str)) ∧ (∀ z ∈ l, PyData.canLay0 (.str z) = true) ∧ Q (.bl (decide (l ∈ ls))) H
theorem ok_Book_contains (T : Tx K w mg) : FnOk P w K mg base CX0 1 T.f_Book_contains T.d_Book_contains ["self", "rule"] (sp_contains K T.C_Book) := by
  refine T.F_Book_contains.ok sc_Book_contains (fun vs H Q E h => ?_) (fun cdv A outer s H vs Q E hr h => ?_)
  · obtain ⟨b, u, ts, l, ls, rfl, _⟩ := h
    rfl
  · obtain ⟨b, u, ts, l, ls, rfl, ⟨bx, t, br, bs, hb, ht, hR, rls⟩, ok, hu, lok, k⟩ := h
    refine ⟨_,
    (pss_one
      (ps_ret (pe_cmpR (op_inD (hu65 hr)) (pv 1) (pe_fld (pv 0) rfl) (by rfl)))), ?_⟩
    refine ⟨_, rfl, _, rfl, b, T.C_Book, bx, _, _, rfl, hb, T.cl_Book, T.n_Book_rules, fl_r t br, rdata l, ls.map rdata, .tup (.of hu) dp_strs, .lst (.of hR) rls.dp, rd_ok lok, rsdata_ok ok rls.all, ?_⟩
    rw [any_rules]
    exact k
def sp_asked (K : PySem.W.Frag) (C : Addr) : Sp := fun vs H Q _ => ∃ (b r u : Addr) (ts l : List Str) (ls : List (List Str)) (as : List Addr), vs = [.ref b, .ref r, .ref u] ∧ BkR K C H b ts ls ∧ H r = some (.lst (as.map V.ref)) ∧ Rls ts H as ls ∧ TasksOk ts ∧ H u = some (.tup (l.map V.str)) ∧ (∀ z ∈ l, PyData.canLay0 (.str z) = true) ∧ Q (.bl true) H
theorem ok_law_asked (T : Tx K w mg) : FnOk P w K mg base CX0 2 T.f_law_asked T.d_law_asked ["book", "rule_list", "rule"] (sp_asked K T.C_Book) := by
  refine T.F_law_asked.ok sc_law_asked (fun vs H Q E h => ?_) (fun cdv A outer s H vs Q E hr h => ?_)
  · obtain ⟨b, r, u, ts, l, ls, as, rfl, _⟩ := h
    rfl
  · obtain ⟨b, r, u, ts, l, ls, as, rfl, bk, hr', rls, ok, hu, lok, k⟩ := h
    refine ⟨_,
    (pss_cons
      (ps_set (i := 3) sc_law_asked.nd rfl (.inl rfl) (pe_cmpR (op_inOwn T.me_Book_contains (ok_Book_contains T) (hr.mono (by decide)) T.b_Book_contains) (pv 2) (pv 0) (by rfl)))
    (pss_cons
      (ps_if (PW.pt (pw_or (pt_not (pt_val (pe_callB call_isi (by rfl) T.m_isinstance (by decide +kernel) (pa_cons (pv 3) (pa_cons (pe_bltn (v := .ty "bool") (by rfl) T.m_bool (by decide +kernel) rfl) pa_nil))))) (pw_or1 (pt_cmpR op_ne (pv 3) (pe_cmpR op_gt (pe_bm PySem.F.plainAttrs_list PySem.F.slot_list_count PySem.F.type_list_count (mt_countD (hu65 hr)) (pv 1) (pa_cons (pv 2) pa_nil)) pe_int (nomark _)) (nomark _)))))
        (pss_one
          (ps_ret pe_bl))
        pss_nil)
    (pss_one
      (ps_ret (pe_cmpR op_eq (pe_cmpR (op_notInOwn T.me_Book_contains (ok_Book_contains T) (hr.mono (by decide)) T.b_Book_contains) (pv 2) (pv 0) (by rfl)) (pe_cmpR op_eq (pe_bm PySem.F.plainAttrs_list PySem.F.slot_list_count PySem.F.type_list_count (mt_countD (hu65 hr)) (pv 1) (pa_cons (pv 2) pa_nil)) pe_int (nomark _)) (nomark _)))))), ?_⟩
    obtain ⟨dx, p, q, _, hb, _⟩ := id bk
    have dl : Dp K H (.ref r) (.list (ls.map rdata)) := .lst (.of hr') rls.dp
    have du : Dp K H (.ref u) (rdata l) := .tup (.of hu) dp_strs
    have ol := rsdata_ok ok rls.all
    have od := rd_ok lok
    have cp := cnt_pos l ls
    refine ⟨_, rfl, _, rfl, b, dx, _, rfl, hb, b, u, ts, l, ls, rfl, bk, ok, hu, lok, _, rfl, ?_⟩
    refine ⟨_, rfl, _, _, _, _, true, rfl, .ty "bool", .base (.bl _), kit_ty (by decide +kernel), _, rfl, iteF ?_⟩
    refine ⟨_, rfl, _, rfl, .inl ⟨rfl, _, .of hr'⟩, _, rfl, r, .ref u, rdata l, ls.map rdata, rfl, rfl, dl, du, ol, od, _, _, rfl, rfl, ?_⟩
    rw [cnt_rules]
    have c1 : decide ((0 : Int) < ((ls.countP fun m => decide (m = l) : Nat) : Int)) = decide (l ∈ ls) := by
      rw [← cp]
      exact decide_eq_decide.mpr (by omega)
    have c2 : decide (V.int ((ls.countP fun m => decide (m = l) : Nat) : Int) = V.int 0) = !decide (l ∈ ls) := by
      rw [← cp]
      by_cases z : 0 < ls.countP fun m => decide (m = l)
      · rw [decide_eq_true z]
        exact decide_eq_false fun e => by
          have := V.int.inj e
          omega
      · rw [decide_eq_false z]
        exact decide_eq_true (congrArg V.int (by omega))
    show rNe (V.bl (decide (l ∈ ls))) (V.bl (decide ((0 : Int) < ((ls.countP fun m => decide (m = l) : Nat) : Int)))) _ _
    rw [c1]
    refine ⟨rfl, _, rfl, ?_⟩
    rw [decide_eq_true (rfl : V.bl (decide (l ∈ ls)) = _)]
    refine iteF ?_
    refine ⟨_, rfl, _, rfl, b, dx, _, rfl, hb, b, u, ts, l, ls, rfl, bk, ok, hu, lok, _, rfl, ?_⟩
    refine ⟨_, rfl, .inl ⟨rfl, _, .of hr'⟩, _, rfl, r, .ref u, rdata l, ls.map rdata, rfl, rfl, dl, du, ol, od, rfl, ?_⟩
    rw [cnt_rules, c2]
    refine ⟨rfl, ?_⟩
    rw [decide_eq_true (rfl : V.bl (!decide (l ∈ ls)) = _)]
    exact k
/-! ### a tuple near to a rule -/
theorem cmul2 {b : Int} (h0 : 0 ≤ b) (h1 : b < 2) : CMul b 2 := by
  have : b = 0 ∨ b = 1 := by omega
  rcases this with rfl | rfl
  · exact .inr ⟨by decide, by decide⟩
  · exact .inr ⟨by decide, by decide⟩
def sp_near : Sp := fun vs H Q _ => ∃ (d g t r : Addr) (ts : List Str) (as : List Addr) (ls : List (List Str)), vs = [.ref d, .ref t, .ref r] ∧ Deck H d g ∧ Lat H d g t (ts.map V.str) ∧ Lat H d g r (as.map V.ref) ∧ Rls ts H as ls ∧ TasksOk ts ∧ as.length ≤ 100 ∧
  ∀ (a : Addr) (l : List Str) H', Std H H' d g → H' a = some (.tup (l.map V.str)) → (∀ z ∈ l, PyData.canLay0 (.str z) = true) → Q (.ref a) H'
theorem ok_law_near (T : Tx K w mg) : FnOk P w K mg base CX0 4 T.f_law_near T.d_law_near ["deck", "task_list", "rule_list"] sp_near := by
  refine T.F_law_near.ok sc_law_near (fun vs H Q E h => ?_) (fun cdv A outer s H vs Q E hr h => ?_)
  · obtain ⟨d, g, t, r, ts, as, ls, rfl, _⟩ := h
    rfl
  · obtain ⟨d, g, t, r, ts, as, ls, rfl, hD, lt0, lr0, rl0, ok, few, k⟩ := h
    refine ⟨_,
    (pss_cons
      (ps_set (i := 3) sc_law_near.nd rfl (.inl rfl) (pe_call (ok_law_draw T) (hr.mono (by decide)) (by rfl) T.g_law_draw T.F_law_draw.kp T.b_law_draw .nil pass0 (pa_cons (pv 0) (pa_cons pe_int pa_nil))))
    (pss_cons
      (ps_if (PW.pt (pw_or (pt_cmpR op_eq (pv 3) pe_int (nomark _)) (pw_or1 (pt_cmpR (op_eqD hr.units) (pv 2) (pe_lst pa_nil) (nomark _)))))
        (pss_one
          (ps_ret (pe_call (ok_law_rule T) (hr.mono (by decide)) (by rfl) T.g_law_rule T.F_law_rule.kp T.b_law_rule .nil pass0 (pa_cons (pv 0) (pa_cons (pv 1) pa_nil)))))
        pss_nil)
    (pss_cons
      (ps_if (pt_cmpR op_eq (pv 3) pe_int (nomark _))
        (pss_one
          (ps_ret (pe_call (ok_law_bad_rule T) hr (by rfl) T.g_law_bad_rule T.F_law_bad_rule.kp T.b_law_bad_rule .nil pass0 (pa_cons (pv 0) (pa_cons (pv 1) pa_nil)))))
        pss_nil)
    (pss_cons
      (ps_set (i := 4) sc_law_near.nd rfl (.inl rfl) (pe_callTy call_list_of (by rfl) T.m_list (by decide +kernel) (pa_cons (pe_ix ix_list (pv 2) (pe_call (ok_law_draw T) (hr.mono (by decide)) (by rfl) T.g_law_draw T.F_law_draw.kp T.b_law_draw .nil pass0 (pa_cons (pv 0) (pa_cons (pe_callB call_len_seq (by rfl) T.m_len (by decide +kernel) (pa_cons (pv 2) pa_nil)) pa_nil))) (fun _ _ => rfl)) pa_nil)))
    (C8.pss_cut
      (ps_if (PW.pt (pw_and (pt_cmpR op_eq (pv 3) pe_int (nomark _)) (pw_and1 (pt_cmpR op_eq (pe_callB call_len_seq (by rfl) T.m_len (by decide +kernel) (pa_cons (pv 4) pa_nil)) pe_int (nomark _)))))
        (pss_one
          (ps_set (i := 4) sc_law_near.nd rfl (.inl rfl) (pe_lst (pa_cons (pe_ix ix_list (pv 4) pe_int (fun _ _ => rfl)) (pa_cons (pe_ix ix_list (pv 4) pe_int (fun _ _ => rfl)) (pa_cons (pe_ix ix_list (pv 4) pe_int (fun _ _ => rfl)) pa_nil))))))
        pss_nil)
    (C8.pss_cut
      (ps_if (pt_cmpR op_eq (pv 3) pe_int (nomark _))
        (pss_one
          (ps_asg (pe_ix ix_list (pe_lst (pa_cons pe_str (pa_cons pe_str (pa_cons pe_str (pa_cons pe_str (pa_cons pe_str (pa_cons pe_str (pa_cons pe_str (pa_cons pe_str pa_nil))))))))) (pe_call (ok_law_draw T) (hr.mono (by decide)) (by rfl) T.g_law_draw T.F_law_draw.kp T.b_law_draw .nil pass0 (pa_cons (pv 0) (pa_cons pe_int pa_nil))) (fun _ _ => rfl)) (pg_sub (pv 4) pe_int set_list)))
        pss_nil)
    (C8.pss_cut
      (ps_if (pt_cmpR op_eq (pv 3) pe_int (nomark _))
        (pss_cons
          (ps_set (i := 5) sc_law_near.nd rfl (.inl rfl) (pe_call (ok_law_draw T) (hr.mono (by decide)) (by rfl) T.g_law_draw T.F_law_draw.kp T.b_law_draw .nil pass0 (pa_cons (pv 0) (pa_cons (pe_callB call_len_seq (by rfl) T.m_len (by decide +kernel) (pa_cons (pv 4) pa_nil)) pa_nil))))
        (pss_one
          (ps_set (i := 4) sc_law_near.nd rfl (.inl rfl) (pe_op op_cat (pe_slice sl_list (pv 4) po_none (po_some (pv 5))) (pe_slice sl_list (pv 4) (po_some (pe_op op_sub (pe_op op_add (pv 5) pe_int) (pe_op op_mul (pe_call (ok_law_draw T) (hr.mono (by decide)) (by rfl) T.g_law_draw T.F_law_draw.kp T.b_law_draw .nil pass0 (pa_cons (pv 0) (pa_cons pe_int pa_nil))) pe_int))) po_none)))))
        pss_nil)
    (pss_one
      (ps_ret (pe_callTy call_tuple_of (by rfl) T.m_tuple (by decide +kernel) (pa_cons (pe_slice sl_list (pv 4) po_none (po_some pe_int)) pa_nil))))))))))), ?_⟩
    have tne : 0 < ts.length := List.length_pos_iff.mpr ok.ne
    have tfew := ok.few
    have al := rl0.len
    refine ⟨_, rfl, d, g, 6, rfl, hD, by decide, by decide +kernel, fun way H1 w0 w8 hD1 k1 => ?_⟩
    have s1 := (Std.refl hD).draw hD1 k1
    have rule : ∀ {H2 : Hp}, Std H H2 d g → sp_rule [.ref d, .ref t] H2 Q E0 := fun {H2} s2 => ⟨d, g, t, ts, rfl, s2.dk, lt0.keep s2.kd, ok, fun a l H3 s3 fa ea rok => k a l H3 (s2.trans s3) ea (rule_ok ok rok)⟩
    refine ⟨_, rfl, rfl, _, rfl, ite2 (fun c => ⟨_, rfl, _, rfl, rule s1⟩) (fun c => ?_)⟩
    refine ⟨_, rfl, Nat.zero_le _, fun L hL => ?_⟩
    have s2 : Std H (upd H1 L (.lst [])) d g := s1.new hL
    have eL : (upd H1 L (.lst [])) L = some (.lst []) := upd_same
    generalize upd H1 L (.lst []) = H2 at s2 eL
    have lr2 := lr0.keep s2.kd
    have rl2 := rl0.keep (Kd.tk s2.kd hD)
    refine ⟨rsdata ls, rsdata [], .lst (.of lr2.at_) rl2.dp, .lst (.of eL) .nil, rsdata_ok ok rl0.all, rfl, _, rfl, ?_⟩
    rw [eqv_rs]
    refine ite2 (fun c => ⟨_, rfl, _, rfl, rule s2⟩) (fun c => ?_)
    have ln : 0 < as.length := by
      have : ls ≠ [] := fun e => c (decide_eq_true e)
      have := List.length_pos_iff.mpr this
      omega
    refine ⟨_, rfl, rfl, _, rfl, ite2 (fun c => ?_) (fun c => ?_)⟩
    · exact ⟨_, rfl, _, rfl, d, g, t, ts, rfl, s2.dk, lt0.keep s2.kd, ok, fun a l H3 s3 ea lok => k a l H3 (s2.trans s3) ea lok⟩
    refine ⟨_, rfl, _, rfl, _, rfl, r, _, rfl, .inl (.of lr2.at_), d, g, _, rfl, s2.dk, ?_, ?_, fun p H3 p0 p1 hD3 k3 => ?_⟩
    · show (0 : Int) < ((as.map V.ref).length : Int)
      rw [List.length_map]; omega
    · exact small_log (by show (((as.map V.ref).length : Nat) : Int).natAbs < 1024; rw [List.length_map]; omega)
    have p2 : p < ((as.map V.ref).length : Int) := p1
    rw [List.length_map] at p2
    obtain ⟨p, rfl⟩ := Int.eq_ofNat_of_zero_le p0
    have s3 := s2.draw hD3 k3
    have hp : p < as.length := by omega
    have rl3 := rl2.keep (Kd.tk k3 s2.dk)
    obtain ⟨l, el, ea, rok⟩ := rl3.at (i := p) (List.getElem?_eq_getElem hp)
    clear el
    refine ⟨r, _, _, V.ref as[p], rfl, rfl, .of (lr2.keep k3).at_, atI_nat (by rw [List.getElem?_map, List.getElem?_eq_getElem hp]; rfl), as[p], _, rfl, .inr (.of ea), fun R hR => ?_⟩
    obtain ⟨l2, l3⟩ := rule_len rok
    have w4 : Wl H _ d g R l 2 3 := Wl.new s3 hR l2 l3 (rule_ok ok rok)
    generalize upd H3 R (.lst (l.map V.str)) = H4 at w4
    clear l2 l3 rok ea rl3 s3 p2 hp lr2 rl2 eL
    refine ⟨fun σ' H' => ∃ (R : Addr) (l : List Str), σ' = [some (.ref d), some (.ref t), some (.ref r), some (.int way), some (.ref R), none] ∧ Wl H H' d g R l 2 3, ?_, ?_⟩
    · refine ⟨_, rfl, rfl, _, rfl, ite2 (fun c => ?_) (fun c => ⟨R, l, rfl, w4⟩)⟩
      refine ⟨_, rfl, R, _, rfl, .inl (.of w4.eR), rfl, _, rfl, ite2 (fun c => ?_) (fun c => ⟨R, l, rfl, w4⟩)⟩
      have c3 : l.length = 3 := by
        have h1 : (((l.map V.str).length : Nat) : Int) = 3 := V.int.inj (of_decide_eq_true c)
        rw [List.length_map] at h1
        omega
      refine ⟨_, rfl, R, _, _, V.str l[0], rfl, rfl, .of w4.eR, atI_nat (j := 0) (by rw [List.getElem?_map, List.getElem?_eq_getElem (by omega)]; rfl), _, rfl, R, _, _, V.str l[2], rfl, rfl, .of w4.eR, atI_nat (j := 2) (by rw [List.getElem?_map, List.getElem?_eq_getElem (by omega)]; rfl), _, rfl, R, _, _, V.str l[1], rfl, rfl, .of w4.eR, atI_nat (j := 1) (by rw [List.getElem?_map, List.getElem?_eq_getElem (by omega)]; rfl), (by show 3 ≤ sizeLine; decide), fun R2 hR2 => ?_⟩
      have w5 : Wl H _ d g R2 [l[0], l[2], l[1]] 2 3 := Wl.new w4.sd hR2 (by simp) (by simp) (fun y hy => by
        simp only [List.mem_cons, List.not_mem_nil, or_false] at hy
        rcases hy with rfl | rfl | rfl
        · exact w4.ok _ (List.getElem_mem _)
        · exact w4.ok _ (List.getElem_mem _)
        · exact w4.ok _ (List.getElem_mem _))
      exact ⟨R2, _, rfl, w5⟩
    clear w4
    clear l H4 hR R
    rintro σ H4 ⟨R, l, rfl, w4⟩
    refine ⟨fun σ' H' => ∃ (l : List Str), σ' = [some (.ref d), some (.ref t), some (.ref r), some (.int way), some (.ref R), none] ∧ Wl H H' d g R l 2 3, ?_, ?_⟩
    · refine ⟨_, rfl, rfl, _, rfl, ite2 (fun c => ?_) (fun c => ⟨l, rfl, w4⟩)⟩
      refine ⟨(by show 8 ≤ sizeLine; decide), fun L hL => ?_⟩
      have w5 := w4.std ((Std.refl w4.sd.dk).new (o := .lst (kd8.map V.str)) hL)
      have lk : Lat (upd H4 L (.lst (kd8.map V.str))) d g L (kd8.map V.str) := Lat.new w4.sd.dk hL
      refine ⟨_, rfl, d, g, 8, rfl, w5.sd.dk, by decide, by decide +kernel, fun e H5 e0 e1 hD5 k5 => ?_⟩
      obtain ⟨e, rfl⟩ := Int.eq_ofNat_of_zero_le e0
      have w6 := w5.std ((Std.refl w5.sd.dk).draw hD5 k5)
      have he : e < kd8.length := by show e < 8; omega
      have okz : PyData.canLay0 (.str kd8[e]) = true := all_ok kd8_ok _ (List.getElem_mem he)
      refine ⟨L, _, _, V.str kd8[e], rfl, rfl, .of (lk.keep k5).at_, atI_nat (by rw [List.getElem?_map, List.getElem?_eq_getElem he]; rfl), ?_⟩
      generalize kd8[e] = z at okz
      refine ⟨_, rfl, R, _, _, 0, rfl, rfl, w6.eR, ixN_nat (j := 0) (by rw [List.length_map]; exact Nat.lt_of_lt_of_le (by decide) w6.lo), l.set 0 z, rfl, ?_⟩
      rw [← List.map_set]
      exact w6.put (by rw [List.length_set]; exact w6.lo) (by rw [List.length_set]; exact w6.hi) (ok_set w6.ok okz 0)
    clear w4
    clear l H4
    rintro σ H4 ⟨l, rfl, w4⟩
    refine ⟨fun σ' H' => ∃ (R : Addr) (l : List Str) (x5 : Option V), σ' = [some (.ref d), some (.ref t), some (.ref r), some (.int way), some (.ref R), x5] ∧ Wl H H' d g R l 0 6, ?_, ?_⟩
    · refine ⟨_, rfl, rfl, _, rfl, ite2 (fun c => ?_) (fun c => ⟨R, l, _, rfl, w4.wide (by omega) (by omega)⟩)⟩
      have ll := w4.lo
      have lh := w4.hi
      refine ⟨_, rfl, _, rfl, R, _, rfl, .inl (.of w4.eR), d, g, _, rfl, w4.sd.dk, ?_, ?_, fun a H5 a0 a1 hD5 k5 => ?_⟩
      · show (0 : Int) < ((l.map V.str).length : Int)
        rw [List.length_map]; omega
      · exact small_log (by show (((l.map V.str).length : Nat) : Int).natAbs < 1024; rw [List.length_map]; omega)
      have w5 := w4.std ((Std.refl w4.sd.dk).draw hD5 k5)
      refine ⟨_, rfl, _, rfl, _, rfl, R, _, rfl, .of w5.eR, fun L1 hL1 => ?_⟩
      obtain ⟨m1, e1, n1, o1⟩ := cutV_some (l := l) none (some a)
      rw [e1]
      have v1 : Wl H _ d g L1 m1 0 3 := Wl.new w5.sd hL1 (Nat.zero_le _) (by omega) (fun z hz => w5.ok z (o1 z hz))
      have w6 := w5.std ((Std.refl w5.sd.dk).new (o := .lst (m1.map V.str)) hL1)
      generalize upd H5 L1 (.lst (m1.map V.str)) = H6 at v1 w6
      refine ⟨_, rfl, _, rfl, _, _, rfl, rfl, _, rfl, d, g, 2, rfl, w6.sd.dk, by decide, by decide +kernel, fun b H7 b0 b1 hD7 k7 => ⟨_, _, rfl, rfl, cmul2 b0 b1, _, _, rfl, rfl, _, rfl, R, _, rfl, .of (w6.std ((Std.refl w6.sd.dk).draw hD7 k7)).eR, fun L2 hL2 => ?_⟩⟩
      have st7 := (Std.refl w6.sd.dk).draw hD7 k7
      obtain ⟨m2, e2, n2, o2⟩ := cutV_some (l := l) (some ((a + 1) - b * 2)) none
      rw [e2]
      have v2 : Wl H _ d g L2 m2 0 3 := Wl.new (w6.std st7).sd hL2 (Nat.zero_le _) (by omega) (fun z hz => w5.ok z (o2 z hz))
      have v1' := (v1.std st7).std ((Std.refl st7.dk).new (o := .lst (m2.map V.str)) hL2)
      generalize upd H7 L2 (.lst (m2.map V.str)) = H8 at v2 v1'
      refine ⟨L1, L2, _, _, rfl, rfl, v1'.eR, v2.eR, ?_, fun R2 hR2 => ?_⟩
      · rw [List.length_map, List.length_map]; exact Nat.le_of_lt (small1000 (by omega))
      refine ⟨R2, m1 ++ m2, _, rfl, ?_⟩
      rw [← List.map_append]
      exact Wl.new v2.sd hR2 (Nat.zero_le _) (by rw [List.length_append]; omega) (fun z hz => by
        rcases List.mem_append.mp hz with h | h
        · exact v1.ok z h
        · exact v2.ok z h)
    clear w4
    clear l H4 R
    rintro σ H4 ⟨R, l, x5, rfl, w4⟩
    refine ⟨_, rfl, _, rfl, R, _, rfl, .of w4.eR, fun L hL => ?_⟩
    obtain ⟨m1, e1, n1, o1⟩ := cutV_some (l := l) none (some 8)
    rw [e1]
    have v1 : Wl H _ d g L m1 0 6 := Wl.new w4.sd hL (Nat.zero_le _) (by have := w4.hi; omega) (fun z hz => w4.ok z (o1 z hz))
    refine ⟨L, _, rfl, .inl ⟨.of v1.eR, fun u hu => ?_⟩⟩
    exact k u m1 _ (v1.sd.new hu) upd_same v1.ok
theorem fl_turn (t r : Addr) : (fl t r).lookup ("turned" : Str) = none := by
  unfold fl
  rw [lookup_putF, if_neg (by decide +kernel), lookup_putF, if_neg (by decide +kernel)]
  rfl
/-! ### rows of books and what stands in them -/
def RowS (C : Addr) (ts : List Str) (H : Hp) (d g R u c r : Addr) (ls : List (List Str)) : Prop := ∃ (dx p q : Addr) (as bs : List Addr), H u = some (.tup [.ref c, .ref r]) ∧ H c = some (.ins C dx (fl p q)) ∧ (Lat H d g p (ts.map V.str) ∧ p ≠ R) ∧ (Lat H d g q (as.map V.ref) ∧ q ≠ R) ∧ Rls ts H as ls ∧ (Lat H d g r (bs.map V.ref) ∧ r ≠ R) ∧ Rls ts H bs ls ∧ ls.length ≤ 60
theorem RowS.kr {C : Addr} {H H' : Hp} {d g R u c r : Addr} {ts : List Str} {ls : List (List Str)} {xs : List V} (h : RowS C ts H d g R u c r ls) (hD : Deck H d g) (hR : H R = some (.lst xs)) (k : Kr d g R H H') : RowS C ts H' d g R u c r ls := by
  have tk : Tk H H' := fun b ys e => by
    obtain ⟨gs, a, m, h1, h2, _⟩ := hD
    exact k b _ e (ne_of e h1 (by intro z; cases z)) (ne_of e h2 (by intro z; cases z)) (ne_of e hR (by intro z; cases z))
  have lt : ∀ {b : Addr} {ys : List V}, Lat H d g b ys → b ≠ R → Lat H' d g b ys := fun l n => ⟨k _ _ l.at_ l.nd l.ng n, l.nd, l.ng⟩
  obtain ⟨dx, p, q, as, bs, h1, h2, h3, h4, h5, h6, h7, h8⟩ := h
  refine ⟨dx, p, q, as, bs, tk _ _ h1, ?_, ⟨lt h3.1 h3.2, h3.2⟩, ⟨lt h4.1 h4.2, h4.2⟩, h5.keep tk, ⟨lt h6.1 h6.2, h6.2⟩, h7.keep tk, h8⟩
  obtain ⟨gs, a, m, g1, g2, _⟩ := hD
  exact k _ _ h2 (ne_of h2 g1 (by intro z; cases z)) (ne_of h2 g2 (by intro z; cases z)) (ne_of h2 hR (by intro z; cases z))
theorem RowS.bk {C : Addr} {H : Hp} {d g R u c r : Addr} {ts : List Str} {ls : List (List Str)} (h : RowS C ts H d g R u c r ls) : H u = some (.tup [.ref c, .ref r]) ∧ Bk C H d g c ts ls ∧ (∃ as, Lat H d g r (as.map V.ref) ∧ Rls ts H as ls) ∧ ls.length ≤ 60 := by
  obtain ⟨dx, p, q, as, bs, h1, h2, h3, h4, h5, h6, h7, h8⟩ := h
  exact ⟨h1, ⟨dx, p, q, h2, h3.1, as, h4.1, h5⟩, ⟨bs, h6.1, h7⟩, h8⟩
/-- tuples of words -/
def Wds (H : Hp) (us : List Addr) : Prop := ∀ u ∈ us, ∃ l : List Str, H u = some (.tup (l.map V.str)) ∧ ∀ z ∈ l, PyData.canLay0 (.str z) = true
theorem Wds.keep {H H' : Hp} {us : List Addr} (h : Wds H us) (k : Tk H H') : Wds H' us := fun u hu => by
  obtain ⟨l, e, o⟩ := h u hu
  exact ⟨l, k _ _ e, o⟩
theorem Wds.app {H : Hp} {us vs : List Addr} (h : Wds H us) (k : Wds H vs) : Wds H (us ++ vs) := fun u hu => by
  rcases List.mem_append.mp hu with a | a
  · exact h u a
  · exact k u a
theorem Rls.wds {ts : List Str} {H : Hp} {as : List Addr} {ls : List (List Str)} (ok : TasksOk ts) (h : Rls ts H as ls) : Wds H as := fun u hu => by
  obtain ⟨l, e, r⟩ := h.mem hu
  exact ⟨l, e, rule_ok ok r⟩
/-- all that stands once the rows are made -/
structure Pk (C : Addr) (H : Hp) (d g R t M U x r : Addr) (ts : List Str) (ls gs : List (List Str)) (ms us : List Addr) : Prop where
  dk : Deck H d g
  dR : R ≠ d ∧ R ≠ g
  eR : H R = some (.lst (us.map V.ref))
  rows : ∀ u ∈ us, ∃ c r' ls', RowS C ts H d g R u c r' ls'
  row1 : RowS C ts H d g R U x r ls
  lt : Lat H d g t (ts.map V.str)
  tR : t ≠ R
  lm : Lat H d g M (ms.map V.ref)
  mR : M ≠ R
  rg : Rls ts H ms gs
section
variable {C : Addr} {H H' : Hp} {d g R t M U x r : Addr} {ts : List Str} {ls gs : List (List Str)} {ms us : List Addr}
theorem Pk.kd (p : Pk C H d g R t M U x r ts ls gs ms us) (hD : Deck H' d g) (k : Kd d g H H') : Pk C H' d g R t M U x r ts ls gs ms us :=
  ⟨hD, p.dR, k _ _ p.eR p.dR.1 p.dR.2, fun u hu => by
    obtain ⟨c, r', ls', h⟩ := p.rows u hu
    exact ⟨c, r', ls', h.kr p.dk p.eR k.kr⟩, p.row1.kr p.dk p.eR k.kr, p.lt.keep k, p.tR, p.lm.keep k, p.mR, p.rg.keep (Kd.tk k p.dk)⟩
theorem Pk.same (p : Pk C H d g R t M U x r ts ls gs ms us) (s : Same H H') : Pk C H' d g R t M U x r ts ls gs ms us := p.kd (p.dk.same s) (Same.kd s)
theorem Pk.push (p : Pk C H d g R t M U x r ts ls gs ms us) {V1 c r' : Addr} {ls' : List (List Str)} (n : RowS C ts H d g R V1 c r' ls') : Pk C (upd H R (.lst (us.map V.ref ++ [V.ref V1]))) d g R t M U x r ts ls gs ms (us ++ [V1]) := by
  have hD := deck_mv (o := .lst (us.map V.ref ++ [V.ref V1])) p.dk p.dR
  refine ⟨hD, p.dR, by rw [upd_same, map_snoc_ref], fun u hu => ?_, p.row1.kr p.dk p.eR kr_upd, ⟨by rw [upd_ne p.tR]; exact p.lt.at_, p.lt.nd, p.lt.ng⟩, p.tR, ⟨by rw [upd_ne p.mR]; exact p.lm.at_, p.lm.nd, p.lm.ng⟩, p.mR, p.rg.keep (tk_mut p.eR)⟩
  rcases List.mem_append.mp hu with h | h
  · obtain ⟨c, r', ls', h⟩ := p.rows u h
    exact ⟨c, r', ls', h.kr p.dk p.eR kr_upd⟩
  · rw [List.mem_singleton.mp h]
    exact ⟨c, r', ls', n.kr p.dk p.eR kr_upd⟩
theorem Pk.book (p : Pk C H d g R t M U x r ts ls gs ms us) : ∃ dx p q as, H x = some (.ins C dx (fl p q)) ∧ BkR K C H x ts ls ∧ Lat H d g r (as.map V.ref) ∧ Rls ts H as ls ∧ as.length = ls.length ∧ ls.length ≤ 60 := by
  obtain ⟨_, bk, ⟨as, lr, rl⟩, few⟩ := p.row1.bk
  obtain ⟨dx, p, q, e, kr⟩ := bk.parts (K := K)
  exact ⟨dx, p, q, as, e, kr, lr, rl, rl.len, few⟩
theorem mkRow {Hb Hn : Hp} {o o' : HO} {u y dy p q N : Addr} {bs cs : List Addr} (hDb : Deck Hb d g) (eRb : Hb R = some o) (fp : Hb p = none) (fq : Hb q = none) (hDn : Deck Hn d g) (eRn : Hn R = some o') (fN : Hn N = none)
    (eu : H u = some (.tup [.ref y, .ref N])) (ey : H y = some (.ins C dy (fl p q))) (ep : H p = some (.lst (ts.map V.str))) (eq : H q = some (.lst (bs.map V.ref))) (rb : Rls ts H bs ls) (eN : H N = some (.lst (cs.map V.ref))) (rn : Rls ts H cs ls) (few : ls.length ≤ 60) : RowS C ts H d g R u y N ls :=
  ⟨dy, p, q, bs, cs, eu, ey, ⟨⟨ep, (hDb.new fp).1, (hDb.new fp).2⟩, (ne_of_none eRb fp).symm⟩, ⟨⟨eq, (hDb.new fq).1, (hDb.new fq).2⟩, (ne_of_none eRb fq).symm⟩, rb, ⟨⟨eN, (hDn.new fN).1, (hDn.new fN).2⟩, (ne_of_none eRn fN).symm⟩, rn, few⟩
theorem rowAt {o : HO} {u y N : Addr} {cs : List Addr} (fR : H R = none) (eu : H u = some (.tup [.ref y, .ref N])) (bk : Bk C H d g y ts ls) (ln : Lat H d g N (cs.map V.ref)) (rn : Rls ts H cs ls) (few : ls.length ≤ 60) : RowS C ts (upd H R o) d g R u y N ls := by
  obtain ⟨dy, p, q, ey, lp, bs, lq, rb⟩ := bk
  have s := same_upd (o := o) fR
  exact ⟨dy, p, q, bs, cs, s _ _ eu, s _ _ ey, ⟨lp.keep (Same.kd s), ne_of_none lp.at_ fR⟩, ⟨lq.keep (Same.kd s), ne_of_none lq.at_ fR⟩, rb.keep (Same.tk s), ⟨ln.keep (Same.kd s), ne_of_none ln.at_ fR⟩, rn.keep (Same.tk s), few⟩
end
def spLaw (K : PySem.W.Frag) : Sp := fun vs H Q _ => ∃ (a : Addr) (ns : List Int), vs = [.ref a] ∧ SqL K H a (ns.map V.int) ∧ ns.length ≤ 63 ∧ ∀ H', Q (.bl true) H'
set_option maxHeartbeats 1600000 in
theorem ok_law (T : Tx K w mg) : FnOk P w K mg base CX0 6 T.f_law T.d_law ["script"] (spLaw K) := by
  refine T.F_law.ok sc_law (fun vs H Q E h => ?_) (fun cdv A outer s H vs Q E hr h => ?_)
  · obtain ⟨a, ns, rfl, _⟩ := h
    rfl
  · obtain ⟨a, ns, rfl, hS, hl, k⟩ := h
    refine ⟨_,
    (pss_cons
      (ps_set (i := 1) sc_law.nd rfl (.inr rfl) (pe_call (ok_law_deck T) (hr.mono (by decide)) (by rfl) T.g_law_deck T.F_law_deck.kp T.b_law_deck .nil pass0 (pa_cons (pv 0) pa_nil)))
    (pss_cons
      (ps_for PassesOwn.never rfl (pi_range1 (by rfl) T.m_range (pa_cons (pe_op op_add pe_int (pe_call (ok_law_draw T) (hr.mono (by decide)) (by rfl) T.g_law_draw T.F_law_draw.kp T.b_law_draw .nil pass0 (pa_cons (pv 1) (pa_cons pe_int pa_nil)))) pa_nil)) (pg_name (i := 2) sc_law.nd rfl (.inl rfl))
        (pss_cons
          (ps_asg (pe_call (ok_law_data T) (hr.mono (by decide)) (by rfl) T.g_law_data T.F_law_data.kp T.b_law_data .nil pass0 (pa_cons (pv 1) (pa_cons pe_int (pa_cons pe_int pa_nil)))) (pg_tup (by rfl) (pgs_cons (pg_name (i := 3) sc_law.nd rfl (.inr rfl)) (pgs_cons (pg_name (i := 4) sc_law.nd rfl (.inr rfl)) pgs_nil))))
        (pss_cons
          (ps_set (i := 5) sc_law.nd rfl (.inl rfl) (pe_make T.mk_Book (ok_Book_init T) (hr.mono (by decide)) (by rfl) T.mg_Book T.b_Book_init .nil pass0 (pa_cons (pe_callTy call_list_of (by rfl) T.m_list (by decide +kernel) (pa_cons (pv 3) pa_nil)) (pa_cons (pe_callTy call_list_of (by rfl) T.m_list (by decide +kernel) (pa_cons (pv 4) pa_nil)) pa_nil))))
        (pss_cons
          (ps_setLc (i := 6) (own := [("m", 12)]) (g := gName 12) rfl sc_law.nd rfl rfl (sw_true rfl rfl rfl (by decide +kernel)) (pi_range1 (by rfl) T.m_range (pa_cons (pe_call (ok_law_draw T) (hr.mono (by decide)) (by rfl) T.g_law_draw T.F_law_draw.kp T.b_law_draw .nil pass0 (pa_cons (pv 1) (pa_cons pe_int pa_nil))) pa_nil)) (blkOk_by (N := ["script", "deck", "k", "task_list", "rule_list", "book", "more", "rows", "at", "asked", "one", "own", "m", "rule"]) (sc := defScope s_law) (own := [("m", 12)]) (by decide +kernel)) (fun _ _ _ _ _ => (pg_name (i := 12) sc_law.nd rfl (.inl rfl))) (fun _ _ _ _ _ => pts_nil) (fun _ _ _ _ _ => (pe_call (ok_law_rule T) (hr.mono (by decide)) (by rfl) T.g_law_rule T.F_law_rule.kp T.b_law_rule .nil pass0 (pa_cons (pv 1) (pa_cons (pv 3) pa_nil)))))
        (pss_cons
          (ps_set (i := 7) sc_law.nd rfl (.inl rfl) (pe_lst (pa_cons (pe_tup (pa_cons (pv 5) (pa_cons (pv 4) pa_nil))) (pa_cons (pe_tup (pa_cons (pe_meth (pv 5) T.cl_Book T.me_Book_with_rules (ok_Book_with_rules T) hr T.b_Book_with_rules .nil pass0 (pa_cons (pe_callTy call_list_of (by rfl) T.m_list (by decide +kernel) (pa_cons (pv 6) pa_nil)) pa_nil)) (pa_cons (pe_op op_cat (pv 4) (pv 6)) pa_nil))) pa_nil))))
        (pss_cons
          (ps_expr (pe_bm PySem.F.plainAttrs_list PySem.F.slot_list_append PySem.F.type_list_append mt_append (pv 7) (pa_cons (pe_tup (pa_cons (pe_op (op_andOwn T.sf_Book T.me_Book_and (ok_Book_and T) hr T.b_Book_and) (pv 5) (pv 5)) (pa_cons (pe_op op_cat (pv 4) (pv 4)) pa_nil))) pa_nil)))
        (pss_cons
          (ps_expr (pe_bm PySem.F.plainAttrs_list PySem.F.slot_list_append PySem.F.type_list_append mt_append (pv 7) (pa_cons (pe_tup (pa_cons (pe_meth0 (pv 5) T.cl_Book T.me_Book_turned (ok_Book_turned T) hr T.b_Book_turned .nil pass0) (pa_cons (pe_lc (own := [("rule", 13)]) (g := gName 13) rfl sc_law.nd (pi_list (pv 4)) (blkOk_by (N := ["script", "deck", "k", "task_list", "rule_list", "book", "more", "rows", "at", "asked", "one", "own", "m", "rule"]) (sc := defScope s_law) (own := [("rule", 13)]) (by decide +kernel)) (fun _ _ _ _ _ => (pg_name (i := 13) sc_law.nd rfl (.inl rfl))) (fun _ _ _ _ _ => pts_nil) (fun _ _ _ _ _ => (pe_call (ok_law_backward T) (hr.mono (by decide)) (by rfl) T.g_law_backward T.F_law_backward.kp T.b_law_backward .nil pass0 (pa_cons (pv 13) pa_nil)))) pa_nil))) pa_nil)))
        (C8.pss_cut
          (ps_if (pt_cmpR (op_neD hr.units) (pv 4) (pe_lst pa_nil) (nomark _))
            (pss_cons
              (ps_set (i := 8) sc_law.nd rfl (.inl rfl) (pe_call (ok_law_draw T) (hr.mono (by decide)) (by rfl) T.g_law_draw T.F_law_draw.kp T.b_law_draw .nil pass0 (pa_cons (pv 1) (pa_cons (pe_callB call_len_seq (by rfl) T.m_len (by decide +kernel) (pa_cons (pv 4) pa_nil)) pa_nil))))
            (pss_one
              (ps_expr (pe_bm PySem.F.plainAttrs_list PySem.F.slot_list_append PySem.F.type_list_append mt_append (pv 7) (pa_cons (pe_tup (pa_cons (pe_meth (pv 5) T.cl_Book T.me_Book_without (ok_Book_without T) hr T.b_Book_without .nil pass0 (pa_cons (pv 8) pa_nil)) (pa_cons (pe_op op_cat (pe_slice sl_list (pv 4) po_none (po_some (pv 8))) (pe_slice sl_list (pv 4) (po_some (pe_op op_add (pv 8) pe_int)) po_none)) pa_nil))) pa_nil)))))
            pss_nil)
        (pss_cons
          (ps_set (i := 9) sc_law.nd rfl (.inl rfl) (pe_op op_cat (pe_op op_cat (pv 4) (pv 6)) (pe_lc (own := [("m", 12)]) (g := gName 12) rfl sc_law.nd (pi_range1 (by rfl) T.m_range (pa_cons pe_int pa_nil)) (blkOk_by (N := ["script", "deck", "k", "task_list", "rule_list", "book", "more", "rows", "at", "asked", "one", "own", "m", "rule"]) (sc := defScope s_law) (own := [("m", 12)]) (by decide +kernel)) (fun _ _ _ _ _ => (pg_name (i := 12) sc_law.nd rfl (.inl rfl))) (fun _ _ _ _ _ => pts_nil) (fun _ _ _ _ _ => (pe_call (ok_law_near T) (hr.mono (by decide)) (by rfl) T.g_law_near T.F_law_near.kp T.b_law_near .nil pass0 (pa_cons (pv 1) (pa_cons (pv 3) (pa_cons (pv 4) pa_nil))))))))
        (pss_one
          (ps_for PassesOwn.never rfl (pi_list (pe_call (ok_law_order T) (hr.mono (by decide)) (by rfl) T.g_law_order T.F_law_order.kp T.b_law_order .nil pass0 (pa_cons (pv 1) (pa_cons (pe_callB call_len_seq (by rfl) T.m_len (by decide +kernel) (pa_cons (pv 9) pa_nil)) pa_nil)))) (pg_name (i := 8) sc_law.nd rfl (.inl rfl))
            (pss_one
              (ps_for PassesOwn.never rfl (pi_list (pv 7)) (pg_tup (by rfl) (pgs_cons (pg_name (i := 10) sc_law.nd rfl (.inl rfl)) (pgs_cons (pg_name (i := 11) sc_law.nd rfl (.inl rfl)) pgs_nil)))
                (pss_one
                  (ps_if (pt_not (pt_val (pe_call (ok_law_asked T) (hr.mono (by decide)) (by rfl) T.g_law_asked T.F_law_asked.kp T.b_law_asked .nil pass0 (pa_cons (pv 10) (pa_cons (pv 11) (pa_cons (pe_ix ix_list (pv 9) (pv 8) (fun _ _ => rfl)) pa_nil))))))
                    (pss_one
                      (ps_ret pe_bl))
                    pss_nil)))))))))))))))
    (pss_one
      (ps_ret pe_bl)))), ?_⟩
    refine ⟨_, rfl, a, ns, rfl, hS, hl, fun d g H1 s1 hD1 => ?_⟩
    refine ⟨_, rfl, d, g, 3, rfl, hD1, by decide, by decide +kernel, fun n H2 n0 n1 hD2 k2 => ⟨_, _, rfl, rfl, _, rfl, by omega, by omega, for_range (n := (1 + n).toNat) (fun i σ H' => ∃ x2 x3 x4 x5 x6 x7 x8 x9 x10 x11, σ = [some (.ref a), some (.ref d), x2, x3, x4, x5, x6, x7, x8, x9, x10, x11, none, none] ∧ Deck H' d g)
      ⟨_, _, _, _, _, _, _, _, _, _, rfl, hD2⟩ ?_ ?_⟩⟩
    · clear hD2 k2 hD1 s1 hl hS n0 n1
      rintro i σ H0 _ ⟨x2, x3, x4, x5, x6, x7, x8, x9, x10, x11, rfl, hD0⟩
      refine ⟨_, rfl, d, g, 12, 20, rfl, hD0, by decide, by decide, by decide, by decide, fun u t r ts as ls H1 s1 ft fr eu lt lr tr rls ok tf af => ⟨u, _, rfl, .of eu, rfl, _, _, rfl, _, _, rfl, rfl, ?_⟩⟩
      have alen := rls.len
      have hD1 := s1.dk
      clear hD0 s1 ft fr eu
      -- book
      refine ⟨_, rfl, t, _, rfl, .inl (.of lt.at_), fun A2 hA2 => ?_⟩
      have sA := same_upd (o := .lst (ts.map V.str)) hA2
      refine ⟨_, rfl, r, _, rfl, .inl (.of (sA _ _ lr.at_)), fun B2 hB2 => ?_⟩
      have sB := same_upd (o := .lst (as.map V.ref)) hB2
      have sAB := sA.trans sB
      refine mkB sAB (sB _ _ upd_same) upd_same (rls.keep (Same.tk sAB)) ok fun x dx p q bs H2 s2 fp fq ex ep eq rb => ?_
      have bk2 : Bk T.C_Book H2 d g x ts ls := Bk.of hD1 fp fq ex ep eq rb
      have hD2 := hD1.same s2
      have lt2 := lt.keep (Same.kd s2)
      have lr2 := lr.keep (Same.kd s2)
      have rl2 := rls.keep (Same.tk s2)
      clear sA sB sAB lt lr rls hA2 hB2 fp fq ex ep eq rb s2 hD1
      -- more
      refine ⟨_, rfl, d, g, 5, rfl, hD2, by decide, by decide +kernel, fun n H3 n0 n1 hD3 k3 => ⟨_, rfl, by omega, by omega, fun M hM => ?_⟩⟩
      have s3 := (Std.refl hD2).draw hD3 k3
      have dM := hD3.new hM
      refine lc_range (lo := 0) (n := n.toNat) (fun i H' => ∃ ms gs, Std H3 H' d g ∧ Rls ts H' ms gs ∧ ms.length = i ∧ H' M = some (.lst (ms.map V.ref))) ?_ ?_ ?_
      · exact ⟨[], [], (Std.refl hD3).new hM, .nil, rfl, upd_same⟩
      · rintro j H4 hj ⟨ms, gs, s4, rg, ml, eM⟩
        refine ⟨rfl, _, rfl, _, rfl, d, g, t, ts, rfl, s4.dk, (lt2.keep s3.kd).keep s4.kd, ok, fun a l H5 s5 fa ea rok => ?_⟩
        have eM5 := s5.kd _ _ eM dM.1 dM.2
        refine ⟨ms.map V.ref, eM5, ?_, ms ++ [a], gs ++ [l], (s4.trans s5).mut hM dM.1 dM.2, ?_, ?_, ?_⟩
        · rw [List.length_map, ml]; exact small1000 (by omega)
        · exact ((rg.keep (Kd.tk s5.kd s4.dk)).snoc ea rok).keep (tk_mut eM5)
        · rw [List.length_append, ml]; rfl
        · rw [upd_same, List.map_append]; rfl
      rintro H4 ⟨ms, gs, s4, rg, ml, eM⟩
      have mlen := rg.len
      have s24 := s3.trans s4
      have bk4 := bk2.keep hD2 s24.kd
      have lt4 := lt2.keep s24.kd
      have lr4 := lr2.keep s24.kd
      have rl4 := rl2.keep (Kd.tk s24.kd hD2)
      have lm4 : Lat H4 d g M (ms.map V.ref) := ⟨eM, dM.1, dM.2⟩
      have hD4 := s4.dk
      clear bk2 lt2 lr2 rl2 s3 s24 s4 hD2 hD3 k3 hM eM
      -- rows
      obtain ⟨dx4, p4, q4, ex4, kr4⟩ := bk4.parts (K := K)
      refine ⟨_, rfl, _, rfl, (by show 2 ≤ sizeLine; decide), fun U1 hU1 => ?_⟩
      have z1 := same_upd (o := .tup [.ref x, .ref r]) hU1
      have eU1 := upd_same (H := H4) (a := U1) (o := .tup [.ref x, .ref r])
      generalize upd H4 U1 (.tup [.ref x, .ref r]) = H5 at z1 eU1
      refine ⟨_, rfl, x, dx4, _, rfl, z1 _ _ ex4, fl_with p4 q4, _, rfl, M, _, rfl, .inl (.of (z1 _ _ lm4.at_)), fun L hL => ?_⟩
      have z2 := same_upd (o := .lst (ms.map V.ref)) hL
      have z12 := z1.trans z2
      have bk6 := bk4.keep hD4 (Same.kd z12)
      obtain ⟨_, _, _, _, kr6⟩ := bk6.parts (K := K)
      refine ⟨x, L, ts, ls, gs, ms, rfl, kr6, upd_same, rg.keep (Same.tk z12), ok, by omega, by omega, fun x2 dx2 p2 q2 bs2 H7 s7 fp fq ex ep eq rb => ?_⟩
      have z17 := z12.trans s7
      have hD6 := hD4.same z12
      refine ⟨_, rfl, _, rfl, r, M, _, _, rfl, rfl, z17 _ _ lr4.at_, z17 _ _ lm4.at_, ?_, fun N hN => ⟨(by show 2 ≤ sizeLine; decide), fun U2 hU2 => ⟨(by show 2 ≤ sizeLine; decide), fun R hR => ?_⟩⟩⟩
      · rw [List.length_map, List.length_map]; exact Nat.le_of_lt (small1000 (by omega))
      have zN := same_upd (o := .lst (as.map V.ref ++ ms.map V.ref)) hN
      have eN := upd_same (H := H7) (a := N) (o := .lst (as.map V.ref ++ ms.map V.ref))
      generalize upd H7 N (.lst (as.map V.ref ++ ms.map V.ref)) = H8 at *
      have zU := same_upd (o := .tup [.ref x2, .ref N]) hU2
      have eU2 := upd_same (H := H8) (a := U2) (o := .tup [.ref x2, .ref N])
      generalize upd H8 U2 (.tup [.ref x2, .ref N]) = H9 at *
      have zNU := zN.trans zU
      have z19 := z17.trans zNU
      have hD9 := hD4.same z19
      have dN := (hD4.same z17).new hN
      have bk9 := bk4.keep hD4 (Same.kd z19)
      have lt9 := lt4.keep (Same.kd z19)
      have lr9 := lr4.keep (Same.kd z19)
      have lm9 := lm4.keep (Same.kd z19)
      have rl9 := rl4.keep (Same.tk z19)
      have rg9 := rg.keep (Same.tk z19)
      have bkn : Bk T.C_Book H9 d g x2 ts (ls ++ gs) := (Bk.of hD6 fp fq ex ep eq rb).keep (hD4.same z17) (Same.kd zNU)
      have r1 : RowS T.C_Book ts (upd H9 R (.lst [V.ref U1, V.ref U2])) d g R U1 x r ls := rowAt hR (((z2.trans s7).trans zNU) _ _ eU1) bk9 lr9 rl9 (by omega)
      have r2 : RowS T.C_Book ts (upd H9 R (.lst [V.ref U1, V.ref U2])) d g R U2 x2 N (ls ++ gs) := rowAt hR eU2 bkn ⟨by rw [zU _ _ eN, List.map_append], dN.1, dN.2⟩ (rg9.app rl9) (by rw [List.length_append]; omega)
      have zR := same_upd (o := .lst ([U1, U2].map V.ref)) hR
      have P : Pk T.C_Book (upd H9 R (.lst [V.ref U1, V.ref U2])) d g R t M U1 x r ts ls gs ms [U1, U2] :=
        ⟨hD9.same zR, hD9.new hR, upd_same, fun u hu => by
          simp only [List.mem_cons, List.not_mem_nil, or_false] at hu
          rcases hu with rfl | rfl
          · exact ⟨_, _, _, r1⟩
          · exact ⟨_, _, _, r2⟩, r1, lt9.keep (Same.kd zR), ne_of_none lt9.at_ hR, lm9.keep (Same.kd zR), ne_of_none lm9.at_ hR, rg9.keep (Same.tk zR)⟩
      have lsf : ls.length ≤ 21 := by omega
      have gsf : gs.length ≤ 4 := by omega
      clear r1 r2 zR bkn rg9 rl9 lm9 lr9 lt9 bk9 dN hD9 z19 zNU zU zN eN eU2 hD6 z17 rb eq ep ex fq fp s7 kr6 bk6 z12 z2 z1 eU1 kr4 ex4 hD4 bk4 lt4 lr4 rl4 lm4 rg
      generalize upd H9 R (.lst [V.ref U1, V.ref U2]) = H10 at P
      clear hR hU2 hN hL hU1
      -- the book with itself
      obtain ⟨dx, p, q, cs, ex, kr, lr, rl, cl, few⟩ := P.book (K := K)
      refine ⟨_, rfl, .inl ⟨rfl, _, .of P.eR⟩, _, rfl, _, rfl, x, x, dx, dx, _, _, rfl, rfl, ex, ex, x, x, ts, ls, ls, rfl, kr, kr, ok, by omega, by omega, by omega, fun y dy p2 q2 bs2 H11 s11 fp fq ey ep eq rb => ?_⟩
      have P11 := P.same s11
      refine ⟨_, rfl, _, rfl, r, r, _, _, rfl, rfl, s11 _ _ lr.at_, s11 _ _ lr.at_, ?_, fun N hN => ⟨(by show 2 ≤ sizeLine; decide), fun V1 hV => ?_⟩⟩
      · rw [List.length_map]; exact Nat.le_of_lt (small1000 (by omega))
      have zN := same_upd (o := .lst (cs.map V.ref ++ cs.map V.ref)) hN
      have eN := upd_same (H := H11) (a := N) (o := .lst (cs.map V.ref ++ cs.map V.ref))
      generalize upd H11 N (.lst (cs.map V.ref ++ cs.map V.ref)) = H12 at *
      have zV := same_upd (o := .tup [.ref y, .ref N]) hV
      have eV := upd_same (H := H12) (a := V1) (o := .tup [.ref y, .ref N])
      generalize upd H12 V1 (.tup [.ref y, .ref N]) = H13 at *
      have z := zN.trans zV
      have z3 := s11.trans z
      have P13 := P.same z3
      have rl13 := rl.keep (Same.tk z3)
      have row : RowS T.C_Book ts H13 d g R V1 y N (ls ++ ls) := mkRow P.dk P.eR fp fq P11.dk P11.eR hN eV (z _ _ ey) (z _ _ ep) (z _ _ eq) (rb.keep (Same.tk z)) (by rw [zV _ _ eN, List.map_append]) (rl13.app rl13) (by rw [List.length_append]; omega)
      refine ⟨R, _, _, rfl, rfl, P13.eR, (by rw [List.length_map]; exact small1000 (by show 2 ≤ 1000; decide)), ?_⟩
      have P14 := P13.push row
      clear row rl13 P13 z3 z eV zV eN zN P11 rb eq ep ey fq fp s11 few cl rl lr kr ex P hN hV
      generalize upd H13 R (.lst ([U1, U2].map V.ref ++ [V.ref V1])) = H14 at P14
      -- the book turned
      obtain ⟨dx, p, q, cs, ex, kr, lr, rl, cl, few⟩ := P14.book (K := K)
      refine ⟨_, rfl, .inl ⟨rfl, _, .of P14.eR⟩, _, rfl, x, dx, _, rfl, ex, fl_turn p q, x, ts, ls, rfl, kr, ok, by omega, fun y dy p2 q2 bs2 H15 s15 fp fq ey ep eq rb => ?_⟩
      have P15 := P14.same s15
      have lr15 := lr.keep (Same.kd s15)
      have rl15 := rl.keep (Same.tk s15)
      refine ⟨_, rfl, r, rfl, ⟨_, .of lr15.at_⟩, fun D hDn => ?_⟩
      refine lc_list (xs := cs.map V.ref) (fun i H' => ∃ es : List Addr, H' D = some (.lst (es.map V.ref)) ∧ Rls ts H' es ((ls.take i).map turn) ∧ es.length = i ∧ Same H15 H') ⟨[], upd_same, .nil, rfl, same_upd hDn⟩ ?_ ?_ ?_
      · rintro i H' _ ⟨es, _, _, _, sm⟩
        exact .of (sm _ _ lr15.at_)
      · rintro i v H1 hi ⟨es, eD, re, el, sm⟩
        have hil := (List.getElem?_eq_some_iff.mp hi).1
        rw [List.length_map] at hil
        rw [List.getElem?_map] at hi
        obtain ⟨a1, ha, rfl⟩ := Option.map_eq_some_iff.mp hi
        obtain ⟨l, hl, ea, rok⟩ := rl15.at ha
        refine ⟨rfl, _, rfl, a1, ts, l, rfl, sm _ _ ea, rok, fun u H2 s2 eu => ⟨es.map V.ref, s2 _ _ eD, ?_, es ++ [u], ?_, ?_, ?_, fun x o e => ?_⟩⟩
        · rw [List.length_map]; exact small1000 (by omega)
        · rw [upd_same, List.map_append]; rfl
        · have e2 : (ls.take (i + 1)).map turn = (ls.take i).map turn ++ [turn l] := by rw [List.take_add_one, hl, List.map_append]; rfl
          rw [e2]
          exact ((re.keep (Same.tk s2)).snoc eu (turn_ok rok)).keep (tk_mut (s2 _ _ eD))
        · rw [List.length_append, el]; rfl
        · rw [upd_ne (ne_of_none e hDn)]
          exact s2 x o (sm x o e)
      rintro H16 ⟨es, eD, re, el, sm⟩
      rw [List.length_map, cl, List.take_length] at re
      refine ⟨(by show 2 ≤ sizeLine; decide), fun V2 hV => ?_⟩
      have zV := same_upd (o := .tup [.ref y, .ref D]) hV
      have eV := upd_same (H := H16) (a := V2) (o := .tup [.ref y, .ref D])
      generalize upd H16 V2 (.tup [.ref y, .ref D]) = H17 at *
      have z := sm.trans zV
      have P17 := P15.same z
      have row : RowS T.C_Book ts H17 d g R V2 y D (ls.map turn) := mkRow P14.dk P14.eR fp fq P15.dk P15.eR hDn eV (z _ _ ey) (z _ _ ep) (z _ _ eq) (rb.keep (Same.tk z)) (zV _ _ eD) (re.keep (Same.tk zV)) (by rw [List.length_map]; omega)
      refine ⟨R, _, _, rfl, rfl, P17.eR, (by rw [List.length_map]; exact small1000 (by show 3 ≤ 1000; decide)), ?_⟩
      have P18 := P17.push row
      clear row P17 z eV zV re eD sm P15 rb eq ep ey fq fp s15 few cl rl lr kr ex P14 hV hDn lr15 rl15 el
      generalize upd H17 R (.lst (([U1, U2] ++ [V1]).map V.ref ++ [V.ref V2])) = H18 at P18
      -- a rule less
      refine ⟨fun σ' H' => ∃ us x8, σ' = [some (.ref a), some (.ref d), some (.int (0 + (i : Int))), some (.ref t), some (.ref r), some (.ref x), some (.ref M), some (.ref R), x8, x9, x10, x11, none, none] ∧ Pk T.C_Book H' d g R t M U1 x r ts ls gs ms us, ?_, ?_⟩
      · obtain ⟨dx, p, q, cs, ex, kr, lr, rl, cl, few⟩ := P18.book (K := K)
        refine ⟨_, rfl, Nat.zero_le _, fun L hL => ?_⟩
        have zL := same_upd (o := .lst []) hL
        have eL := upd_same (H := H18) (a := L) (o := .lst [])
        generalize upd H18 L (.lst []) = H19 at *
        have P19 := P18.same zL
        refine ⟨rsdata ls, rsdata [], .lst (.of (zL _ _ lr.at_)) (rl.keep (Same.tk zL)).dp, .lst (.of eL) .nil, rsdata_ok ok rl.all, rfl, _, rfl, ?_⟩
        rw [eqv_rs]
        refine ite2 (fun c => ?_) (fun c => ⟨_, _, rfl, P19⟩)
        have lne : ls ≠ [] := fun e => by rw [decide_eq_true e] at c; cases c
        have l0 := List.length_pos_iff.mpr lne
        clear ex kr lr rl cl few cs
        clear dx p q
        obtain ⟨dx, p, q, cs, ex, kr, lr, rl, cl, few⟩ := P19.book (K := K)
        refine ⟨_, rfl, _, rfl, r, _, rfl, .inl (.of lr.at_), d, g, _, rfl, P19.dk, ?_, ?_, fun e H20 e0 e1 hD20 k20 => ?_⟩
        · show (0 : Int) < ((cs.map V.ref).length : Int)
          rw [List.length_map]; omega
        · exact small_log (by show (((cs.map V.ref).length : Nat) : Int).natAbs < 1024; rw [List.length_map]; omega)
        have e2 : e < ((cs.map V.ref).length : Int) := e1
        rw [List.length_map] at e2
        obtain ⟨e, rfl⟩ := Int.eq_ofNat_of_zero_le e0
        have P20 := P19.kd hD20 k20
        clear ex kr lr rl few P19
        have el : e < ls.length := by omega
        clear e2 e1 e0 cl cs
        clear dx p q
        obtain ⟨dx, p, q, cs, ex, kr, lr, rl, cl, few⟩ := P20.book (K := K)
        refine ⟨_, rfl, .inl ⟨rfl, _, .of P20.eR⟩, _, rfl, x, dx, _, rfl, ex, fl_wout p q, _, rfl, x, e, ts, ls, rfl, kr, ok, el, by omega, fun y dy p2 q2 bs2 H21 s21 fp fq ey ep eq rb => ?_⟩
        have P21 := P20.same s21
        refine ⟨_, rfl, _, rfl, _, rfl, r, _, rfl, .of (s21 _ _ lr.at_), fun L1 hL1 => ?_⟩
        rw [cut_t]
        have y1 := same_upd (o := .lst ((cs.take e).map V.ref)) hL1
        have eL1 := upd_same (H := H21) (a := L1) (o := .lst ((cs.take e).map V.ref))
        generalize upd H21 L1 (.lst ((cs.take e).map V.ref)) = H22 at *
        refine ⟨_, rfl, _, rfl, _, _, rfl, rfl, _, rfl, r, _, rfl, .of (y1 _ _ (s21 _ _ lr.at_)), fun L2 hL2 => ?_⟩
        rw [show (e : Int) + 1 = ((e + 1 : Nat) : Int) by omega, cut_d]
        have y2 := same_upd (o := .lst ((cs.drop (e + 1)).map V.ref)) hL2
        have eL2 := upd_same (H := H22) (a := L2) (o := .lst ((cs.drop (e + 1)).map V.ref))
        generalize upd H22 L2 (.lst ((cs.drop (e + 1)).map V.ref)) = H23 at *
        refine ⟨L1, L2, _, _, rfl, rfl, y2 _ _ eL1, eL2, ?_, fun N hN => ⟨(by show 2 ≤ sizeLine; decide), fun V3 hV => ?_⟩⟩
        · rw [List.length_map, List.length_map, List.length_take, List.length_drop]; exact Nat.le_of_lt (small1000 (by omega))
        have yN := same_upd (o := .lst ((cs.take e).map V.ref ++ (cs.drop (e + 1)).map V.ref)) hN
        have eN := upd_same (H := H23) (a := N) (o := .lst ((cs.take e).map V.ref ++ (cs.drop (e + 1)).map V.ref))
        generalize upd H23 N (.lst ((cs.take e).map V.ref ++ (cs.drop (e + 1)).map V.ref)) = H24 at *
        have yV := same_upd (o := .tup [.ref y, .ref N]) hV
        have eV := upd_same (H := H24) (a := V3) (o := .tup [.ref y, .ref N])
        generalize upd H24 V3 (.tup [.ref y, .ref N]) = H25 at *
        have z := ((y1.trans y2).trans yN).trans yV
        have P23 := P21.same (y1.trans y2)
        have P25 := P21.same z
        have rl25 := rl.keep (Same.tk (s21.trans z))
        have row : RowS T.C_Book ts H25 d g R V3 y N (ls.take e ++ ls.drop (e + 1)) := mkRow P20.dk P20.eR fp fq P23.dk P23.eR hN eV (z _ _ ey) (z _ _ ep) (z _ _ eq) (rb.keep (Same.tk z)) (by rw [yV _ _ eN, List.map_append]) ((rl25.drop (e + 1)).app (rl25.take e)) (by rw [List.length_append, List.length_take, List.length_drop]; omega)
        refine ⟨R, _, _, rfl, rfl, P25.eR, (by rw [List.length_map]; exact small1000 (by show 4 ≤ 1000; decide)), ?_⟩
        exact ⟨_, _, rfl, P25.push row⟩
      clear P18
      clear H18
      rintro σ H19 ⟨us, x8, rfl, P19⟩
      -- asked
      obtain ⟨dx, p, q, cs, ex, kr, lr, rl, cl, few⟩ := P19.book (K := K)
      refine ⟨_, rfl, _, rfl, r, M, _, _, rfl, rfl, lr.at_, P19.lm.at_, ?_, fun N hN => ?_⟩
      · rw [List.length_map, List.length_map]; exact Nat.le_of_lt (small1000 (by omega))
      have zN := same_upd (o := .lst (cs.map V.ref ++ ms.map V.ref)) hN
      have eN := upd_same (H := H19) (a := N) (o := .lst (cs.map V.ref ++ ms.map V.ref))
      have dN := P19.dk.new hN
      generalize upd H19 N (.lst (cs.map V.ref ++ ms.map V.ref)) = H20 at *
      have P20 := P19.same zN
      have lr20 := lr.keep (Same.kd zN)
      have rl20 := rl.keep (Same.tk zN)
      clear kr ex P19 lr rl zN hN
      refine ⟨_, rfl, by decide, by decide, fun D hDn => ?_⟩
      have dD := P20.dk.new hDn
      refine lc_range (lo := 0) (n := 12) (fun i H' => ∃ ns : List Addr, Std H20 H' d g ∧ Wds H' ns ∧ ns.length = i ∧ H' D = some (.lst (ns.map V.ref))) ?_ ?_ ?_
      · exact ⟨[], (Std.refl P20.dk).new hDn, fun u hu => absurd hu List.not_mem_nil, rfl, upd_same⟩
      · rintro j H1 hj ⟨ns, s1, wn, nl, eD⟩
        refine ⟨rfl, _, rfl, _, rfl, _, rfl, d, g, t, r, ts, cs, ls, rfl, s1.dk, P20.lt.keep s1.kd, lr20.keep s1.kd, rl20.keep (Kd.tk s1.kd P20.dk), ok, by omega, fun u l H2 s2 eu lok => ?_⟩
        have eD2 := s2.kd _ _ eD dD.1 dD.2
        refine ⟨ns.map V.ref, eD2, ?_, ns ++ [u], (s1.trans s2).mut hDn dD.1 dD.2, ?_, ?_, ?_⟩
        · rw [List.length_map, nl]; exact small1000 (by omega)
        · refine ((wn.keep (Kd.tk s2.kd s1.dk)).app fun v hv => ?_).keep (tk_mut eD2)
          rw [List.mem_singleton.mp hv]
          exact ⟨l, eu, lok⟩
        · rw [List.length_append, nl]; rfl
        · rw [upd_same, List.map_append]; rfl
      rintro H21 ⟨ns, s21, wn, nl, eD⟩
      have eN21 := s21.kd _ _ eN dN.1 dN.2
      refine ⟨N, D, _, _, rfl, rfl, eN21, eD, ?_, fun A hA => ?_⟩
      · rw [List.length_append, List.length_map, List.length_map, List.length_map]; exact Nat.le_of_lt (small1000 (by omega))
      have zA := same_upd (o := .lst ((cs.map V.ref ++ ms.map V.ref) ++ ns.map V.ref)) hA
      have P22 := (P20.kd s21.dk s21.kd).same zA
      have dA := s21.dk.new hA
      have w22 : Wds (upd H21 A (.lst ((cs.map V.ref ++ ms.map V.ref) ++ ns.map V.ref))) ((cs ++ ms) ++ ns) :=
        ((((rl20.keep (Kd.tk s21.kd P20.dk)).wds ok).app ((P20.rg.keep (Kd.tk s21.kd P20.dk)).wds ok)).app wn).keep (Same.tk zA)
      have eA : (upd H21 A (.lst ((cs.map V.ref ++ ms.map V.ref) ++ ns.map V.ref))) A = some (.lst (((cs ++ ms) ++ ns).map V.ref)) := by rw [upd_same, List.map_append, List.map_append]
      have nl2 : ((cs ++ ms) ++ ns).length ≤ 60 := by rw [List.length_append, List.length_append]; omega
      generalize upd H21 A (.lst ((cs.map V.ref ++ ms.map V.ref) ++ ns.map V.ref)) = H22 at *
      generalize (cs ++ ms) ++ ns = qs at *
      clear zA eN21 eD wn nl s21 dD hDn rl20 lr20 P20 dN eN
      refine ⟨_, rfl, _, rfl, A, _, rfl, .inl (.of eA), d, g, _, rfl, P22.dk, ?_, fun q os H23 s23 fq eq n1 n2 oin ol ond => ⟨q, rfl, ⟨_, .of eq⟩, ?_⟩⟩
      · rw [List.length_map]; omega
      have P23 := P22.kd s23.dk s23.kd
      have eA23 := s23.kd _ _ eA dA.1 dA.2
      have w23 := w22.keep (Kd.tk s23.kd P22.dk)
      refine for_list (xs := os.map V.int) (fun m σ H' => H' = H23 ∧ ∃ x8 x10 x11, σ = [some (.ref a), some (.ref d), some (.int (0 + (i : Int))), some (.ref t), some (.ref r), some (.ref x), some (.ref M), some (.ref R), x8, some (.ref A), x10, x11, none, none]) ⟨rfl, _, _, _, rfl⟩ (fun m σ H' _ h => by rw [h.1]; exact .of eq) ?_ ?_
      · rintro m v σ H24 hm ⟨rfl, x8, x10, x11, rfl⟩
        obtain ⟨o, ho, rfl⟩ := List.mem_map.mp (List.mem_of_getElem? hm)
        obtain ⟨o1, o2⟩ := oin o ho
        rw [List.length_map] at o2
        obtain ⟨o, rfl⟩ := Int.eq_ofNat_of_zero_le o1
        have ho2 : o < qs.length := by omega
        have gj : (qs.map V.ref)[o]? = some (V.ref qs[o]) := by rw [List.getElem?_map, List.getElem?_eq_getElem ho2]; rfl
        obtain ⟨l, eu, lok⟩ := w23 _ (List.getElem_mem ho2)
        refine ⟨_, rfl, R, rfl, ⟨_, .of P23.eR⟩, ?_⟩
        refine for_list (xs := us.map V.ref) (fun m σ H' => H' = H24 ∧ ∃ x10 x11, σ = [some (.ref a), some (.ref d), some (.int (0 + (i : Int))), some (.ref t), some (.ref r), some (.ref x), some (.ref M), some (.ref R), some (.int (o : Int)), some (.ref A), x10, x11, none, none]) ⟨rfl, _, _, rfl⟩ (fun m σ H' _ h => by rw [h.1]; exact .of P23.eR) ?_ ?_
        · rintro m v σ H25 hm ⟨rfl, x10, x11, rfl⟩
          obtain ⟨u1, hu1, rfl⟩ := List.mem_map.mp (List.mem_of_getElem? hm)
          obtain ⟨c, r', ls', row⟩ := P23.rows u1 hu1
          obtain ⟨eu1, bk, ⟨bs, lb, rb⟩, _⟩ := row.bk
          obtain ⟨_, _, _, _, kr⟩ := bk.parts (K := K)
          refine ⟨u1, _, rfl, .of eu1, rfl, _, _, rfl, _, _, rfl, rfl, ?_⟩
          refine ⟨_, rfl, _, rfl, _, rfl, _, rfl, A, _, _, V.ref qs[o], rfl, rfl, .of eA23, at_of (j := o) rfl gj, c, r', qs[o], ts, l, ls', bs, rfl, kr, lb.at_, rb, ok, eu, lok, _, rfl, rfl, _, _, rfl⟩
        · rintro σ H25 ⟨rfl, x10, x11, rfl⟩
          exact ⟨rfl, _, _, _, rfl⟩
      · rintro σ H24 ⟨rfl, x8, x10, x11, rfl⟩
        exact ⟨_, _, _, _, _, _, _, _, _, _, rfl, P23.dk⟩
    · rintro σ H2 ⟨_, _, _, _, _, _, _, _, _, _, rfl, hD2⟩
      exact k _
end
theorem all_mk {l : PySem.W.OpenLaw} {w : World} {K : PySem.W.Frag} {h : Heap} {mg : Str → Option Value} {fa f_is_name f_check_tasks f_check_rule f_turned f_Book_init f_Book_tasks f_Book_rules f_Book_with_rules f_Book_without f_Book_turned f_Book_and f_Book_contains f_Book_len f_law_deck f_law_draw f_law_names f_law_rule f_law_data f_law_strange f_law_bad_rule f_law_order f_law_backward f_law_near f_law_asked f_law : Addr} (X : K.In h) (G : h.Ns mainGlobals mg) (hfa : mg "law" = some (.ref fa))
    {C_Book : Addr}
    {d__TASKS_IN : Addr} {e__TASKS_IN : Array DictEntry} {i__TASKS_IN : Nat}
    {t__TASKS_IN_before : Tok}
    {t__TASKS_IN_upto : Tok}
    {t__TASKS_IN_same : Tok}
    {t__TASKS_IN_apart : Tok}
    {t__TASKS_IN_far : Tok}
    {t__TASKS_IN_next : Tok}
    {t__TASKS_IN_first : Tok}
    {t__TASKS_IN_last : Tok}
    {d__OTHER_END : Addr} {e__OTHER_END : Array DictEntry} {i__OTHER_END : Nat}
    {t__OTHER_END_first : Tok}
    {t__OTHER_END_last : Tok}
    {d__DIRECTED : Addr} {od__DIRECTED : Option Addr} {i__DIRECTED : Nat} {sl__DIRECTED : Array (Option Value)} {t__DIRECTED_0 t__DIRECTED_1 t__DIRECTED_2 t__DIRECTED_3 : Tok}
    {t__LONGEST_NAME : Tok}
    {od_is_name an_is_name : Option Addr} {sl_is_name : Array (Option Value)} {oc_is_name kV_is_name dc_is_name pm_is_name cd_is_name ct_is_name : Value}
    {od_check_tasks an_check_tasks : Option Addr} {sl_check_tasks : Array (Option Value)} {oc_check_tasks kV_check_tasks dc_check_tasks pm_check_tasks cd_check_tasks ct_check_tasks : Value}
    {od_check_rule an_check_rule : Option Addr} {sl_check_rule : Array (Option Value)} {oc_check_rule kV_check_rule dc_check_rule pm_check_rule cd_check_rule ct_check_rule : Value}
    {od_turned an_turned : Option Addr} {sl_turned : Array (Option Value)} {oc_turned kV_turned dc_turned pm_turned cd_turned ct_turned : Value}
    {od_Book_init an_Book_init : Option Addr} {sl_Book_init : Array (Option Value)} {oc_Book_init kV_Book_init dc_Book_init pm_Book_init cd_Book_init ct_Book_init : Value}
    {od_Book_tasks an_Book_tasks : Option Addr} {sl_Book_tasks : Array (Option Value)} {oc_Book_tasks kV_Book_tasks dc_Book_tasks pm_Book_tasks cd_Book_tasks ct_Book_tasks : Value}
    {p_Book_tasks : Addr} {r_Book_tasks : List Value}
    {od_Book_rules an_Book_rules : Option Addr} {sl_Book_rules : Array (Option Value)} {oc_Book_rules kV_Book_rules dc_Book_rules pm_Book_rules cd_Book_rules ct_Book_rules : Value}
    {p_Book_rules : Addr} {r_Book_rules : List Value}
    {od_Book_with_rules an_Book_with_rules : Option Addr} {sl_Book_with_rules : Array (Option Value)} {oc_Book_with_rules kV_Book_with_rules dc_Book_with_rules pm_Book_with_rules cd_Book_with_rules ct_Book_with_rules : Value}
    {od_Book_without an_Book_without : Option Addr} {sl_Book_without : Array (Option Value)} {oc_Book_without kV_Book_without dc_Book_without pm_Book_without cd_Book_without ct_Book_without : Value}
    {od_Book_turned an_Book_turned : Option Addr} {sl_Book_turned : Array (Option Value)} {oc_Book_turned kV_Book_turned dc_Book_turned pm_Book_turned cd_Book_turned ct_Book_turned : Value}
    {od_Book_and an_Book_and : Option Addr} {sl_Book_and : Array (Option Value)} {oc_Book_and kV_Book_and dc_Book_and pm_Book_and cd_Book_and ct_Book_and : Value}
    {od_Book_contains an_Book_contains : Option Addr} {sl_Book_contains : Array (Option Value)} {oc_Book_contains kV_Book_contains dc_Book_contains pm_Book_contains cd_Book_contains ct_Book_contains : Value}
    {od_Book_len an_Book_len : Option Addr} {sl_Book_len : Array (Option Value)} {oc_Book_len kV_Book_len dc_Book_len pm_Book_len cd_Book_len ct_Book_len : Value}
    {od_law_deck an_law_deck : Option Addr} {sl_law_deck : Array (Option Value)} {oc_law_deck kV_law_deck dc_law_deck pm_law_deck cd_law_deck ct_law_deck : Value}
    {od_law_draw an_law_draw : Option Addr} {sl_law_draw : Array (Option Value)} {oc_law_draw kV_law_draw dc_law_draw pm_law_draw cd_law_draw ct_law_draw : Value}
    {od_law_names an_law_names : Option Addr} {sl_law_names : Array (Option Value)} {oc_law_names kV_law_names dc_law_names pm_law_names cd_law_names ct_law_names : Value}
    {od_law_rule an_law_rule : Option Addr} {sl_law_rule : Array (Option Value)} {oc_law_rule kV_law_rule dc_law_rule pm_law_rule cd_law_rule ct_law_rule : Value}
    {od_law_data an_law_data : Option Addr} {sl_law_data : Array (Option Value)} {oc_law_data kV_law_data dc_law_data pm_law_data cd_law_data ct_law_data : Value}
    {od_law_strange an_law_strange : Option Addr} {sl_law_strange : Array (Option Value)} {oc_law_strange kV_law_strange dc_law_strange pm_law_strange cd_law_strange ct_law_strange : Value}
    {od_law_bad_rule an_law_bad_rule : Option Addr} {sl_law_bad_rule : Array (Option Value)} {oc_law_bad_rule kV_law_bad_rule dc_law_bad_rule pm_law_bad_rule cd_law_bad_rule ct_law_bad_rule : Value}
    {od_law_order an_law_order : Option Addr} {sl_law_order : Array (Option Value)} {oc_law_order kV_law_order dc_law_order pm_law_order cd_law_order ct_law_order : Value}
    {od_law_backward an_law_backward : Option Addr} {sl_law_backward : Array (Option Value)} {oc_law_backward kV_law_backward dc_law_backward pm_law_backward cd_law_backward ct_law_backward : Value}
    {od_law_near an_law_near : Option Addr} {sl_law_near : Array (Option Value)} {oc_law_near kV_law_near dc_law_near pm_law_near cd_law_near ct_law_near : Value}
    {od_law_asked an_law_asked : Option Addr} {sl_law_asked : Array (Option Value)} {oc_law_asked kV_law_asked dc_law_asked pm_law_asked cd_law_asked ct_law_asked : Value}
    {od_law an_law : Option Addr} {sl_law : Array (Option Value)} {oc_law kV_law dc_law pm_law cd_law ct_law : Value}
    (aC_Book : PySem.W.nsIn K mainGlobals "Book" = some (some (.ref C_Book)))
    (pg_Book : PySem.W.plainGet K C_Book Str.empty = true)
    (hd_Book : PySem.W.hasDictIn K C_Book = true)
    (po_Book : PySem.W.plainOver K C_Book = true)
    (sa_Book : PySem.W.findIn K (.ref C_Book) "__setattr__" = some (some (.builtin "object.__setattr__")))
    (ms_Book : PySem.W.makesIn K C_Book = true)
    (kc_Book : PySem.W.keepIn K (.ref C_Book) = true)
    (n_Book_tasks : PySem.W.findIn K (.ref C_Book) "_tasks" = some none)
    (n_Book_rules : PySem.W.findIn K (.ref C_Book) "_rules" = some none)
    (ga__TASKS_IN : PySem.W.nsIn K mainGlobals "_TASKS_IN" = some (some (.ref d__TASKS_IN)))
    (gl__TASKS_IN : K.lookup d__TASKS_IN = some ⟨.type "dict", none, .dict e__TASKS_IN i__TASKS_IN, #[]⟩)
    (gk__TASKS_IN : PySem.W.KeysLit w.params e__TASKS_IN.toList)
    (gs__TASKS_IN : (d__TASKS_IN == sysModules) = false)
    (gv__TASKS_IN_before : PySem.W.nsIn K d__TASKS_IN "before" = some (some (.int 2 t__TASKS_IN_before)))
    (gv__TASKS_IN_upto : PySem.W.nsIn K d__TASKS_IN "upto" = some (some (.int 2 t__TASKS_IN_upto)))
    (gv__TASKS_IN_same : PySem.W.nsIn K d__TASKS_IN "same" = some (some (.int 2 t__TASKS_IN_same)))
    (gv__TASKS_IN_apart : PySem.W.nsIn K d__TASKS_IN "apart" = some (some (.int 2 t__TASKS_IN_apart)))
    (gv__TASKS_IN_far : PySem.W.nsIn K d__TASKS_IN "far" = some (some (.int 2 t__TASKS_IN_far)))
    (gv__TASKS_IN_next : PySem.W.nsIn K d__TASKS_IN "next" = some (some (.int 2 t__TASKS_IN_next)))
    (gv__TASKS_IN_first : PySem.W.nsIn K d__TASKS_IN "first" = some (some (.int 1 t__TASKS_IN_first)))
    (gv__TASKS_IN_last : PySem.W.nsIn K d__TASKS_IN "last" = some (some (.int 1 t__TASKS_IN_last)))
    (ga__OTHER_END : PySem.W.nsIn K mainGlobals "_OTHER_END" = some (some (.ref d__OTHER_END)))
    (gl__OTHER_END : K.lookup d__OTHER_END = some ⟨.type "dict", none, .dict e__OTHER_END i__OTHER_END, #[]⟩)
    (gk__OTHER_END : PySem.W.KeysLit w.params e__OTHER_END.toList)
    (gs__OTHER_END : (d__OTHER_END == sysModules) = false)
    (gv__OTHER_END_first : PySem.W.nsIn K d__OTHER_END "first" = some (some (.str "last" t__OTHER_END_first)))
    (gv__OTHER_END_last : PySem.W.nsIn K d__OTHER_END "last" = some (some (.str "first" t__OTHER_END_last)))
    (gv__OTHER_END_same : PySem.W.nsIn K d__OTHER_END "same" = some none)
    (gv__OTHER_END_apart : PySem.W.nsIn K d__OTHER_END "apart" = some none)
    (ga__DIRECTED : PySem.W.nsIn K mainGlobals "_DIRECTED" = some (some (.ref d__DIRECTED)))
    (gl__DIRECTED : K.lookup d__DIRECTED = some ⟨.type "tuple", od__DIRECTED, .seq #[.str "before" t__DIRECTED_0, .str "upto" t__DIRECTED_1, .str "far" t__DIRECTED_2, .str "next" t__DIRECTED_3] i__DIRECTED, sl__DIRECTED⟩)
    (gv__LONGEST_NAME : PySem.W.nsIn K mainGlobals "_LONGEST_NAME" = some (some (.int 8 t__LONGEST_NAME)))
    (a_is_name : PySem.W.nsIn K mainGlobals "_is_name" = some (some (.ref f_is_name)))
    (l_is_name : K.lookup f_is_name = some ⟨oc_is_name, od_is_name, .func (PySem.W.fnOf "_is_name" "_is_name" (defArgs s_is_name) (defBody s_is_name) (defScope s_is_name) .none kV_is_name dc_is_name pm_is_name an_is_name cd_is_name ct_is_name), sl_is_name⟩)
    (c_is_name : PySem.W.codeIn K cd_is_name "_is_name" = true)
    (k_is_name : PySem.W.keepIn K (.ref f_is_name) = true)
    (a_check_tasks : PySem.W.nsIn K mainGlobals "_check_tasks" = some (some (.ref f_check_tasks)))
    (l_check_tasks : K.lookup f_check_tasks = some ⟨oc_check_tasks, od_check_tasks, .func (PySem.W.fnOf "_check_tasks" "_check_tasks" (defArgs s_check_tasks) (defBody s_check_tasks) (defScope s_check_tasks) .none kV_check_tasks dc_check_tasks pm_check_tasks an_check_tasks cd_check_tasks ct_check_tasks), sl_check_tasks⟩)
    (c_check_tasks : PySem.W.codeIn K cd_check_tasks "_check_tasks" = true)
    (k_check_tasks : PySem.W.keepIn K (.ref f_check_tasks) = true)
    (a_check_rule : PySem.W.nsIn K mainGlobals "_check_rule" = some (some (.ref f_check_rule)))
    (l_check_rule : K.lookup f_check_rule = some ⟨oc_check_rule, od_check_rule, .func (PySem.W.fnOf "_check_rule" "_check_rule" (defArgs s_check_rule) (defBody s_check_rule) (defScope s_check_rule) .none kV_check_rule dc_check_rule pm_check_rule an_check_rule cd_check_rule ct_check_rule), sl_check_rule⟩)
    (c_check_rule : PySem.W.codeIn K cd_check_rule "_check_rule" = true)
    (k_check_rule : PySem.W.keepIn K (.ref f_check_rule) = true)
    (a_turned : PySem.W.nsIn K mainGlobals "_turned" = some (some (.ref f_turned)))
    (l_turned : K.lookup f_turned = some ⟨oc_turned, od_turned, .func (PySem.W.fnOf "_turned" "_turned" (defArgs s_turned) (defBody s_turned) (defScope s_turned) .none kV_turned dc_turned pm_turned an_turned cd_turned ct_turned), sl_turned⟩)
    (c_turned : PySem.W.codeIn K cd_turned "_turned" = true)
    (k_turned : PySem.W.keepIn K (.ref f_turned) = true)
    (a_Book_init : PySem.W.findIn K (.ref C_Book) "__init__" = some (some (.ref f_Book_init)))
    (i_Book_init : PySem.W.isFn K (.ref f_Book_init) = true)
    (l_Book_init : K.lookup f_Book_init = some ⟨oc_Book_init, od_Book_init, .func (PySem.W.fnOf "__init__" "Book.__init__" (defArgs s_Book_init) (defBody s_Book_init) (defScope s_Book_init) .none kV_Book_init dc_Book_init pm_Book_init an_Book_init cd_Book_init ct_Book_init), sl_Book_init⟩)
    (c_Book_init : PySem.W.codeIn K cd_Book_init "Book.__init__" = true)
    (k_Book_init : PySem.W.keepIn K (.ref f_Book_init) = true)
    (a_Book_tasks : PySem.W.findIn K (.ref C_Book) "tasks" = some (some (.ref p_Book_tasks)))
    (ps_Book_tasks : PySem.W.specialIn K (.ref p_Book_tasks) "__get__" = some (some (.builtin "property.__get__")))
    (pt_Book_tasks : PySem.W.takesIn K (.ref p_Book_tasks) = some true)
    (pr_Book_tasks : PySem.W.recIn K p_Book_tasks "property" = some (.ref f_Book_tasks :: r_Book_tasks))
    (l_Book_tasks : K.lookup f_Book_tasks = some ⟨oc_Book_tasks, od_Book_tasks, .func (PySem.W.fnOf "tasks" "Book.tasks" (defArgs s_Book_tasks) (defBody s_Book_tasks) (defScope s_Book_tasks) .none kV_Book_tasks dc_Book_tasks pm_Book_tasks an_Book_tasks cd_Book_tasks ct_Book_tasks), sl_Book_tasks⟩)
    (c_Book_tasks : PySem.W.codeIn K cd_Book_tasks "Book.tasks" = true)
    (k_Book_tasks : PySem.W.keepIn K (.ref f_Book_tasks) = true)
    (a_Book_rules : PySem.W.findIn K (.ref C_Book) "rules" = some (some (.ref p_Book_rules)))
    (ps_Book_rules : PySem.W.specialIn K (.ref p_Book_rules) "__get__" = some (some (.builtin "property.__get__")))
    (pt_Book_rules : PySem.W.takesIn K (.ref p_Book_rules) = some true)
    (pr_Book_rules : PySem.W.recIn K p_Book_rules "property" = some (.ref f_Book_rules :: r_Book_rules))
    (l_Book_rules : K.lookup f_Book_rules = some ⟨oc_Book_rules, od_Book_rules, .func (PySem.W.fnOf "rules" "Book.rules" (defArgs s_Book_rules) (defBody s_Book_rules) (defScope s_Book_rules) .none kV_Book_rules dc_Book_rules pm_Book_rules an_Book_rules cd_Book_rules ct_Book_rules), sl_Book_rules⟩)
    (c_Book_rules : PySem.W.codeIn K cd_Book_rules "Book.rules" = true)
    (k_Book_rules : PySem.W.keepIn K (.ref f_Book_rules) = true)
    (a_Book_with_rules : PySem.W.findIn K (.ref C_Book) "with_rules" = some (some (.ref f_Book_with_rules)))
    (i_Book_with_rules : PySem.W.isFn K (.ref f_Book_with_rules) = true)
    (l_Book_with_rules : K.lookup f_Book_with_rules = some ⟨oc_Book_with_rules, od_Book_with_rules, .func (PySem.W.fnOf "with_rules" "Book.with_rules" (defArgs s_Book_with_rules) (defBody s_Book_with_rules) (defScope s_Book_with_rules) .none kV_Book_with_rules dc_Book_with_rules pm_Book_with_rules an_Book_with_rules cd_Book_with_rules ct_Book_with_rules), sl_Book_with_rules⟩)
    (c_Book_with_rules : PySem.W.codeIn K cd_Book_with_rules "Book.with_rules" = true)
    (k_Book_with_rules : PySem.W.keepIn K (.ref f_Book_with_rules) = true)
    (a_Book_without : PySem.W.findIn K (.ref C_Book) "without" = some (some (.ref f_Book_without)))
    (i_Book_without : PySem.W.isFn K (.ref f_Book_without) = true)
    (l_Book_without : K.lookup f_Book_without = some ⟨oc_Book_without, od_Book_without, .func (PySem.W.fnOf "without" "Book.without" (defArgs s_Book_without) (defBody s_Book_without) (defScope s_Book_without) .none kV_Book_without dc_Book_without pm_Book_without an_Book_without cd_Book_without ct_Book_without), sl_Book_without⟩)
    (c_Book_without : PySem.W.codeIn K cd_Book_without "Book.without" = true)
    (k_Book_without : PySem.W.keepIn K (.ref f_Book_without) = true)
    (a_Book_turned : PySem.W.findIn K (.ref C_Book) "turned" = some (some (.ref f_Book_turned)))
    (i_Book_turned : PySem.W.isFn K (.ref f_Book_turned) = true)
    (l_Book_turned : K.lookup f_Book_turned = some ⟨oc_Book_turned, od_Book_turned, .func (PySem.W.fnOf "turned" "Book.turned" (defArgs s_Book_turned) (defBody s_Book_turned) (defScope s_Book_turned) .none kV_Book_turned dc_Book_turned pm_Book_turned an_Book_turned cd_Book_turned ct_Book_turned), sl_Book_turned⟩)
    (c_Book_turned : PySem.W.codeIn K cd_Book_turned "Book.turned" = true)
    (k_Book_turned : PySem.W.keepIn K (.ref f_Book_turned) = true)
    (a_Book_and : PySem.W.findIn K (.ref C_Book) "__and__" = some (some (.ref f_Book_and)))
    (i_Book_and : PySem.W.isFn K (.ref f_Book_and) = true)
    (l_Book_and : K.lookup f_Book_and = some ⟨oc_Book_and, od_Book_and, .func (PySem.W.fnOf "__and__" "Book.__and__" (defArgs s_Book_and) (defBody s_Book_and) (defScope s_Book_and) .none kV_Book_and dc_Book_and pm_Book_and an_Book_and cd_Book_and ct_Book_and), sl_Book_and⟩)
    (c_Book_and : PySem.W.codeIn K cd_Book_and "Book.__and__" = true)
    (k_Book_and : PySem.W.keepIn K (.ref f_Book_and) = true)
    (a_Book_contains : PySem.W.findIn K (.ref C_Book) "__contains__" = some (some (.ref f_Book_contains)))
    (i_Book_contains : PySem.W.isFn K (.ref f_Book_contains) = true)
    (l_Book_contains : K.lookup f_Book_contains = some ⟨oc_Book_contains, od_Book_contains, .func (PySem.W.fnOf "__contains__" "Book.__contains__" (defArgs s_Book_contains) (defBody s_Book_contains) (defScope s_Book_contains) .none kV_Book_contains dc_Book_contains pm_Book_contains an_Book_contains cd_Book_contains ct_Book_contains), sl_Book_contains⟩)
    (c_Book_contains : PySem.W.codeIn K cd_Book_contains "Book.__contains__" = true)
    (k_Book_contains : PySem.W.keepIn K (.ref f_Book_contains) = true)
    (a_Book_len : PySem.W.findIn K (.ref C_Book) "__len__" = some (some (.ref f_Book_len)))
    (i_Book_len : PySem.W.isFn K (.ref f_Book_len) = true)
    (l_Book_len : K.lookup f_Book_len = some ⟨oc_Book_len, od_Book_len, .func (PySem.W.fnOf "__len__" "Book.__len__" (defArgs s_Book_len) (defBody s_Book_len) (defScope s_Book_len) .none kV_Book_len dc_Book_len pm_Book_len an_Book_len cd_Book_len ct_Book_len), sl_Book_len⟩)
    (c_Book_len : PySem.W.codeIn K cd_Book_len "Book.__len__" = true)
    (k_Book_len : PySem.W.keepIn K (.ref f_Book_len) = true)
    (a_law_deck : PySem.W.nsIn K mainGlobals "_law_deck" = some (some (.ref f_law_deck)))
    (l_law_deck : K.lookup f_law_deck = some ⟨oc_law_deck, od_law_deck, .func (PySem.W.fnOf "_law_deck" "_law_deck" (defArgs s_law_deck) (defBody s_law_deck) (defScope s_law_deck) .none kV_law_deck dc_law_deck pm_law_deck an_law_deck cd_law_deck ct_law_deck), sl_law_deck⟩)
    (c_law_deck : PySem.W.codeIn K cd_law_deck "_law_deck" = true)
    (k_law_deck : PySem.W.keepIn K (.ref f_law_deck) = true)
    (a_law_draw : PySem.W.nsIn K mainGlobals "_law_draw" = some (some (.ref f_law_draw)))
    (l_law_draw : K.lookup f_law_draw = some ⟨oc_law_draw, od_law_draw, .func (PySem.W.fnOf "_law_draw" "_law_draw" (defArgs s_law_draw) (defBody s_law_draw) (defScope s_law_draw) .none kV_law_draw dc_law_draw pm_law_draw an_law_draw cd_law_draw ct_law_draw), sl_law_draw⟩)
    (c_law_draw : PySem.W.codeIn K cd_law_draw "_law_draw" = true)
    (k_law_draw : PySem.W.keepIn K (.ref f_law_draw) = true)
    (a_law_names : PySem.W.nsIn K mainGlobals "_law_names" = some (some (.ref f_law_names)))
    (l_law_names : K.lookup f_law_names = some ⟨oc_law_names, od_law_names, .func (PySem.W.fnOf "_law_names" "_law_names" (defArgs s_law_names) (defBody s_law_names) (defScope s_law_names) .none kV_law_names dc_law_names pm_law_names an_law_names cd_law_names ct_law_names), sl_law_names⟩)
    (c_law_names : PySem.W.codeIn K cd_law_names "_law_names" = true)
    (k_law_names : PySem.W.keepIn K (.ref f_law_names) = true)
    (a_law_rule : PySem.W.nsIn K mainGlobals "_law_rule" = some (some (.ref f_law_rule)))
    (l_law_rule : K.lookup f_law_rule = some ⟨oc_law_rule, od_law_rule, .func (PySem.W.fnOf "_law_rule" "_law_rule" (defArgs s_law_rule) (defBody s_law_rule) (defScope s_law_rule) .none kV_law_rule dc_law_rule pm_law_rule an_law_rule cd_law_rule ct_law_rule), sl_law_rule⟩)
    (c_law_rule : PySem.W.codeIn K cd_law_rule "_law_rule" = true)
    (k_law_rule : PySem.W.keepIn K (.ref f_law_rule) = true)
    (a_law_data : PySem.W.nsIn K mainGlobals "_law_data" = some (some (.ref f_law_data)))
    (l_law_data : K.lookup f_law_data = some ⟨oc_law_data, od_law_data, .func (PySem.W.fnOf "_law_data" "_law_data" (defArgs s_law_data) (defBody s_law_data) (defScope s_law_data) .none kV_law_data dc_law_data pm_law_data an_law_data cd_law_data ct_law_data), sl_law_data⟩)
    (c_law_data : PySem.W.codeIn K cd_law_data "_law_data" = true)
    (k_law_data : PySem.W.keepIn K (.ref f_law_data) = true)
    (a_law_strange : PySem.W.nsIn K mainGlobals "_law_strange" = some (some (.ref f_law_strange)))
    (l_law_strange : K.lookup f_law_strange = some ⟨oc_law_strange, od_law_strange, .func (PySem.W.fnOf "_law_strange" "_law_strange" (defArgs s_law_strange) (defBody s_law_strange) (defScope s_law_strange) .none kV_law_strange dc_law_strange pm_law_strange an_law_strange cd_law_strange ct_law_strange), sl_law_strange⟩)
    (c_law_strange : PySem.W.codeIn K cd_law_strange "_law_strange" = true)
    (k_law_strange : PySem.W.keepIn K (.ref f_law_strange) = true)
    (a_law_bad_rule : PySem.W.nsIn K mainGlobals "_law_bad_rule" = some (some (.ref f_law_bad_rule)))
    (l_law_bad_rule : K.lookup f_law_bad_rule = some ⟨oc_law_bad_rule, od_law_bad_rule, .func (PySem.W.fnOf "_law_bad_rule" "_law_bad_rule" (defArgs s_law_bad_rule) (defBody s_law_bad_rule) (defScope s_law_bad_rule) .none kV_law_bad_rule dc_law_bad_rule pm_law_bad_rule an_law_bad_rule cd_law_bad_rule ct_law_bad_rule), sl_law_bad_rule⟩)
    (c_law_bad_rule : PySem.W.codeIn K cd_law_bad_rule "_law_bad_rule" = true)
    (k_law_bad_rule : PySem.W.keepIn K (.ref f_law_bad_rule) = true)
    (a_law_order : PySem.W.nsIn K mainGlobals "_law_order" = some (some (.ref f_law_order)))
    (l_law_order : K.lookup f_law_order = some ⟨oc_law_order, od_law_order, .func (PySem.W.fnOf "_law_order" "_law_order" (defArgs s_law_order) (defBody s_law_order) (defScope s_law_order) .none kV_law_order dc_law_order pm_law_order an_law_order cd_law_order ct_law_order), sl_law_order⟩)
    (c_law_order : PySem.W.codeIn K cd_law_order "_law_order" = true)
    (k_law_order : PySem.W.keepIn K (.ref f_law_order) = true)
    (a_law_backward : PySem.W.nsIn K mainGlobals "_law_backward" = some (some (.ref f_law_backward)))
    (l_law_backward : K.lookup f_law_backward = some ⟨oc_law_backward, od_law_backward, .func (PySem.W.fnOf "_law_backward" "_law_backward" (defArgs s_law_backward) (defBody s_law_backward) (defScope s_law_backward) .none kV_law_backward dc_law_backward pm_law_backward an_law_backward cd_law_backward ct_law_backward), sl_law_backward⟩)
    (c_law_backward : PySem.W.codeIn K cd_law_backward "_law_backward" = true)
    (k_law_backward : PySem.W.keepIn K (.ref f_law_backward) = true)
    (a_law_near : PySem.W.nsIn K mainGlobals "_law_near" = some (some (.ref f_law_near)))
    (l_law_near : K.lookup f_law_near = some ⟨oc_law_near, od_law_near, .func (PySem.W.fnOf "_law_near" "_law_near" (defArgs s_law_near) (defBody s_law_near) (defScope s_law_near) .none kV_law_near dc_law_near pm_law_near an_law_near cd_law_near ct_law_near), sl_law_near⟩)
    (c_law_near : PySem.W.codeIn K cd_law_near "_law_near" = true)
    (k_law_near : PySem.W.keepIn K (.ref f_law_near) = true)
    (a_law_asked : PySem.W.nsIn K mainGlobals "_law_asked" = some (some (.ref f_law_asked)))
    (l_law_asked : K.lookup f_law_asked = some ⟨oc_law_asked, od_law_asked, .func (PySem.W.fnOf "_law_asked" "_law_asked" (defArgs s_law_asked) (defBody s_law_asked) (defScope s_law_asked) .none kV_law_asked dc_law_asked pm_law_asked an_law_asked cd_law_asked ct_law_asked), sl_law_asked⟩)
    (c_law_asked : PySem.W.codeIn K cd_law_asked "_law_asked" = true)
    (k_law_asked : PySem.W.keepIn K (.ref f_law_asked) = true)
    (a_law : PySem.W.nsIn K mainGlobals "law" = some (some (.ref f_law)))
    (l_law : K.lookup f_law = some ⟨oc_law, od_law, .func (PySem.W.fnOf "law" "law" (defArgs s_law) (defBody s_law) (defScope s_law) .none kV_law dc_law pm_law an_law cd_law ct_law), sl_law⟩)
    (c_law : PySem.W.codeIn K cd_law "law" = true)
    (k_law : PySem.W.keepIn K (.ref f_law) = true)
    (z_all : PySem.W.nsIn K mainGlobals "all" = some none)
    (z_bool : PySem.W.nsIn K mainGlobals "bool" = some none)
    (z_int : PySem.W.nsIn K mainGlobals "int" = some none)
    (z_isinstance : PySem.W.nsIn K mainGlobals "isinstance" = some none)
    (z_len : PySem.W.nsIn K mainGlobals "len" = some none)
    (z_list : PySem.W.nsIn K mainGlobals "list" = some none)
    (z_range : PySem.W.nsIn K mainGlobals "range" = some none)
    (z_tuple : PySem.W.nsIn K mainGlobals "tuple" = some none)
    (xa_Book : PySem.W.findIn K (.ref C_Book) "__class__" = some (some (.builtin "object.__class__")))
    (xn_Book : PySem.W.specialIn K (.builtin "object.__class__") "__get__" = some (some (.builtin "getset_descriptor.__get__")))
    (xt_Book : PySem.W.takesIn K (.builtin "object.__class__") = some true)
    (xm_Book : PySem.W.mroIn K C_Book (.type "object") = some true)
    (sf_Book : PySem.W.selfFirst K C_Book = true)
    : ∃ fd : FuncData, (∀ (s : Shared) (v : Value), BindsTo s fd ⟨[v], []⟩ [("script", v)]) ∧ ∀ base : Heap, K.In base → base.Ns mainGlobals mg → FnOk l.prog w K mg base CX0 6 fa fd ["script"] (spLaw K) := by
  have e := hfa.symm.trans (PySem.W.mg_of X G a_law)
  cases e
  have F_is_name := fun_mk (st := s_is_name) l_is_name c_is_name k_is_name
  have b_is_name := F_is_name.binds (ps := ["text"]) fun _ _ _ _ _ _ us hl => match us, hl with | [_], _ => rfl
  have F_check_tasks := fun_mk (st := s_check_tasks) l_check_tasks c_check_tasks k_check_tasks
  have b_check_tasks := F_check_tasks.binds (ps := ["tasks"]) fun _ _ _ _ _ _ us hl => match us, hl with | [_], _ => rfl
  have F_check_rule := fun_mk (st := s_check_rule) l_check_rule c_check_rule k_check_rule
  have b_check_rule := F_check_rule.binds (ps := ["rule", "tasks"]) fun _ _ _ _ _ _ us hl => match us, hl with | [_, _], _ => rfl
  have F_turned := fun_mk (st := s_turned) l_turned c_turned k_turned
  have b_turned := F_turned.binds (ps := ["rule"]) fun _ _ _ _ _ _ us hl => match us, hl with | [_], _ => rfl
  have F_Book_init := fun_mk (st := s_Book_init) l_Book_init c_Book_init k_Book_init
  have b_Book_init := F_Book_init.binds (ps := ["self", "tasks", "rules"]) fun _ _ _ _ _ _ us hl => match us, hl with | [_, _, _], _ => rfl
  have F_Book_tasks := fun_mk (st := s_Book_tasks) l_Book_tasks c_Book_tasks k_Book_tasks
  have b_Book_tasks := F_Book_tasks.binds (ps := ["self"]) fun _ _ _ _ _ _ us hl => match us, hl with | [_], _ => rfl
  have F_Book_rules := fun_mk (st := s_Book_rules) l_Book_rules c_Book_rules k_Book_rules
  have b_Book_rules := F_Book_rules.binds (ps := ["self"]) fun _ _ _ _ _ _ us hl => match us, hl with | [_], _ => rfl
  have F_Book_with_rules := fun_mk (st := s_Book_with_rules) l_Book_with_rules c_Book_with_rules k_Book_with_rules
  have b_Book_with_rules := F_Book_with_rules.binds (ps := ["self", "rules"]) fun _ _ _ _ _ _ us hl => match us, hl with | [_, _], _ => rfl
  have F_Book_without := fun_mk (st := s_Book_without) l_Book_without c_Book_without k_Book_without
  have b_Book_without := F_Book_without.binds (ps := ["self", "index"]) fun _ _ _ _ _ _ us hl => match us, hl with | [_, _], _ => rfl
  have F_Book_turned := fun_mk (st := s_Book_turned) l_Book_turned c_Book_turned k_Book_turned
  have b_Book_turned := F_Book_turned.binds (ps := ["self"]) fun _ _ _ _ _ _ us hl => match us, hl with | [_], _ => rfl
  have F_Book_and := fun_mk (st := s_Book_and) l_Book_and c_Book_and k_Book_and
  have b_Book_and := F_Book_and.binds (ps := ["self", "other"]) fun _ _ _ _ _ _ us hl => match us, hl with | [_, _], _ => rfl
  have F_Book_contains := fun_mk (st := s_Book_contains) l_Book_contains c_Book_contains k_Book_contains
  have b_Book_contains := F_Book_contains.binds (ps := ["self", "rule"]) fun _ _ _ _ _ _ us hl => match us, hl with | [_, _], _ => rfl
  have F_Book_len := fun_mk (st := s_Book_len) l_Book_len c_Book_len k_Book_len
  have b_Book_len := F_Book_len.binds (ps := ["self"]) fun _ _ _ _ _ _ us hl => match us, hl with | [_], _ => rfl
  have F_law_deck := fun_mk (st := s_law_deck) l_law_deck c_law_deck k_law_deck
  have b_law_deck := F_law_deck.binds (ps := ["script"]) fun _ _ _ _ _ _ us hl => match us, hl with | [_], _ => rfl
  have F_law_draw := fun_mk (st := s_law_draw) l_law_draw c_law_draw k_law_draw
  have b_law_draw := F_law_draw.binds (ps := ["deck", "many"]) fun _ _ _ _ _ _ us hl => match us, hl with | [_, _], _ => rfl
  have F_law_names := fun_mk (st := s_law_names) l_law_names c_law_names k_law_names
  have b_law_names := F_law_names.binds (ps := ["deck", "many"]) fun _ _ _ _ _ _ us hl => match us, hl with | [_, _], _ => rfl
  have F_law_rule := fun_mk (st := s_law_rule) l_law_rule c_law_rule k_law_rule
  have b_law_rule := F_law_rule.binds (ps := ["deck", "task_list"]) fun _ _ _ _ _ _ us hl => match us, hl with | [_, _], _ => rfl
  have F_law_data := fun_mk (st := s_law_data) l_law_data c_law_data k_law_data
  have b_law_data := F_law_data.binds (ps := ["deck", "most_tasks", "most_rules"]) fun _ _ _ _ _ _ us hl => match us, hl with | [_, _, _], _ => rfl
  have F_law_strange := fun_mk (st := s_law_strange) l_law_strange c_law_strange k_law_strange
  have b_law_strange := F_law_strange.binds (ps := ["deck", "task_list"]) fun _ _ _ _ _ _ us hl => match us, hl with | [_, _], _ => rfl
  have F_law_bad_rule := fun_mk (st := s_law_bad_rule) l_law_bad_rule c_law_bad_rule k_law_bad_rule
  have b_law_bad_rule := F_law_bad_rule.binds (ps := ["deck", "task_list"]) fun _ _ _ _ _ _ us hl => match us, hl with | [_, _], _ => rfl
  have F_law_order := fun_mk (st := s_law_order) l_law_order c_law_order k_law_order
  have b_law_order := F_law_order.binds (ps := ["deck", "many"]) fun _ _ _ _ _ _ us hl => match us, hl with | [_, _], _ => rfl
  have F_law_backward := fun_mk (st := s_law_backward) l_law_backward c_law_backward k_law_backward
  have b_law_backward := F_law_backward.binds (ps := ["rule"]) fun _ _ _ _ _ _ us hl => match us, hl with | [_], _ => rfl
  have F_law_near := fun_mk (st := s_law_near) l_law_near c_law_near k_law_near
  have b_law_near := F_law_near.binds (ps := ["deck", "task_list", "rule_list"]) fun _ _ _ _ _ _ us hl => match us, hl with | [_, _, _], _ => rfl
  have F_law_asked := fun_mk (st := s_law_asked) l_law_asked c_law_asked k_law_asked
  have b_law_asked := F_law_asked.binds (ps := ["book", "rule_list", "rule"]) fun _ _ _ _ _ _ us hl => match us, hl with | [_, _, _], _ => rfl
  have F_law := fun_mk (st := s_law) l_law c_law k_law
  have b_law := F_law.binds (ps := ["script"]) fun _ _ _ _ _ _ us hl => match us, hl with | [_], _ => rfl
  let T : Tx K w mg := {  C_Book := C_Book, cl_Book := ⟨pg_Book, hd_Book, po_Book, sa_Book⟩, mg_Book := PySem.W.mg_of X G aC_Book, n_Book_tasks := n_Book_tasks, n_Book_rules := n_Book_rules, d__TASKS_IN := d__TASKS_IN, e__TASKS_IN := e__TASKS_IN, i__TASKS_IN := i__TASKS_IN, g__TASKS_IN := PySem.W.mg_of X G ga__TASKS_IN, kd__TASKS_IN := ⟨gl__TASKS_IN, gk__TASKS_IN, gs__TASKS_IN⟩, k__TASKS_IN_before := ⟨_, gv__TASKS_IN_before⟩, k__TASKS_IN_upto := ⟨_, gv__TASKS_IN_upto⟩, k__TASKS_IN_same := ⟨_, gv__TASKS_IN_same⟩, k__TASKS_IN_apart := ⟨_, gv__TASKS_IN_apart⟩, k__TASKS_IN_far := ⟨_, gv__TASKS_IN_far⟩, k__TASKS_IN_next := ⟨_, gv__TASKS_IN_next⟩, k__TASKS_IN_first := ⟨_, gv__TASKS_IN_first⟩, k__TASKS_IN_last := ⟨_, gv__TASKS_IN_last⟩, d__OTHER_END := d__OTHER_END, e__OTHER_END := e__OTHER_END, i__OTHER_END := i__OTHER_END, g__OTHER_END := PySem.W.mg_of X G ga__OTHER_END, kd__OTHER_END := ⟨gl__OTHER_END, gk__OTHER_END, gs__OTHER_END⟩, k__OTHER_END_first := ⟨_, gv__OTHER_END_first⟩, k__OTHER_END_last := ⟨_, gv__OTHER_END_last⟩, k__OTHER_END_same := gv__OTHER_END_same, k__OTHER_END_apart := gv__OTHER_END_apart, d__DIRECTED := d__DIRECTED, g__DIRECTED := PySem.W.mg_of X G ga__DIRECTED, sq__DIRECTED := fun H => .inr ⟨_, _, _, gl__DIRECTED, rfl, rfl, (by show 4 ≤ sizeLine; decide), .cons ⟨_, rfl⟩ (.cons ⟨_, rfl⟩ (.cons ⟨_, rfl⟩ (.cons ⟨_, rfl⟩ (.nil))))⟩, t__LONGEST_NAME := _, v__LONGEST_NAME := PySem.W.mg_of X G gv__LONGEST_NAME, f_is_name := f_is_name, d_is_name := _, F_is_name := F_is_name, b_is_name := b_is_name, g_is_name := PySem.W.mg_of X G a_is_name, f_check_tasks := f_check_tasks, d_check_tasks := _, F_check_tasks := F_check_tasks, b_check_tasks := b_check_tasks, g_check_tasks := PySem.W.mg_of X G a_check_tasks, f_check_rule := f_check_rule, d_check_rule := _, F_check_rule := F_check_rule, b_check_rule := b_check_rule, g_check_rule := PySem.W.mg_of X G a_check_rule, f_turned := f_turned, d_turned := _, F_turned := F_turned, b_turned := b_turned, g_turned := PySem.W.mg_of X G a_turned, f_Book_init := f_Book_init, d_Book_init := _, F_Book_init := F_Book_init, b_Book_init := b_Book_init, mk_Book := ⟨ms_Book, a_Book_init, i_Book_init, kc_Book⟩, f_Book_tasks := f_Book_tasks, d_Book_tasks := _, F_Book_tasks := F_Book_tasks, b_Book_tasks := b_Book_tasks, p_Book_tasks := p_Book_tasks, pr_Book_tasks := ⟨a_Book_tasks, ps_Book_tasks, pt_Book_tasks, ⟨_, pr_Book_tasks⟩⟩, f_Book_rules := f_Book_rules, d_Book_rules := _, F_Book_rules := F_Book_rules, b_Book_rules := b_Book_rules, p_Book_rules := p_Book_rules, pr_Book_rules := ⟨a_Book_rules, ps_Book_rules, pt_Book_rules, ⟨_, pr_Book_rules⟩⟩, f_Book_with_rules := f_Book_with_rules, d_Book_with_rules := _, F_Book_with_rules := F_Book_with_rules, b_Book_with_rules := b_Book_with_rules, me_Book_with_rules := ⟨a_Book_with_rules, i_Book_with_rules, k_Book_with_rules⟩, f_Book_without := f_Book_without, d_Book_without := _, F_Book_without := F_Book_without, b_Book_without := b_Book_without, me_Book_without := ⟨a_Book_without, i_Book_without, k_Book_without⟩, f_Book_turned := f_Book_turned, d_Book_turned := _, F_Book_turned := F_Book_turned, b_Book_turned := b_Book_turned, me_Book_turned := ⟨a_Book_turned, i_Book_turned, k_Book_turned⟩, f_Book_and := f_Book_and, d_Book_and := _, F_Book_and := F_Book_and, b_Book_and := b_Book_and, me_Book_and := ⟨a_Book_and, i_Book_and, k_Book_and⟩, f_Book_contains := f_Book_contains, d_Book_contains := _, F_Book_contains := F_Book_contains, b_Book_contains := b_Book_contains, me_Book_contains := ⟨a_Book_contains, i_Book_contains, k_Book_contains⟩, f_Book_len := f_Book_len, d_Book_len := _, F_Book_len := F_Book_len, b_Book_len := b_Book_len, me_Book_len := ⟨a_Book_len, i_Book_len, k_Book_len⟩, f_law_deck := f_law_deck, d_law_deck := _, F_law_deck := F_law_deck, b_law_deck := b_law_deck, g_law_deck := PySem.W.mg_of X G a_law_deck, f_law_draw := f_law_draw, d_law_draw := _, F_law_draw := F_law_draw, b_law_draw := b_law_draw, g_law_draw := PySem.W.mg_of X G a_law_draw, f_law_names := f_law_names, d_law_names := _, F_law_names := F_law_names, b_law_names := b_law_names, g_law_names := PySem.W.mg_of X G a_law_names, f_law_rule := f_law_rule, d_law_rule := _, F_law_rule := F_law_rule, b_law_rule := b_law_rule, g_law_rule := PySem.W.mg_of X G a_law_rule, f_law_data := f_law_data, d_law_data := _, F_law_data := F_law_data, b_law_data := b_law_data, g_law_data := PySem.W.mg_of X G a_law_data, f_law_strange := f_law_strange, d_law_strange := _, F_law_strange := F_law_strange, b_law_strange := b_law_strange, g_law_strange := PySem.W.mg_of X G a_law_strange, f_law_bad_rule := f_law_bad_rule, d_law_bad_rule := _, F_law_bad_rule := F_law_bad_rule, b_law_bad_rule := b_law_bad_rule, g_law_bad_rule := PySem.W.mg_of X G a_law_bad_rule, f_law_order := f_law_order, d_law_order := _, F_law_order := F_law_order, b_law_order := b_law_order, g_law_order := PySem.W.mg_of X G a_law_order, f_law_backward := f_law_backward, d_law_backward := _, F_law_backward := F_law_backward, b_law_backward := b_law_backward, g_law_backward := PySem.W.mg_of X G a_law_backward, f_law_near := f_law_near, d_law_near := _, F_law_near := F_law_near, b_law_near := b_law_near, g_law_near := PySem.W.mg_of X G a_law_near, f_law_asked := f_law_asked, d_law_asked := _, F_law_asked := F_law_asked, b_law_asked := b_law_asked, g_law_asked := PySem.W.mg_of X G a_law_asked, f_law := fa, d_law := _, F_law := F_law, b_law := b_law, g_law := PySem.W.mg_of X G a_law, m_all := PySem.W.mg_none_of X G z_all, m_bool := PySem.W.mg_none_of X G z_bool, m_int := PySem.W.mg_none_of X G z_int, m_isinstance := PySem.W.mg_none_of X G z_isinstance, m_len := PySem.W.mg_none_of X G z_len, m_list := PySem.W.mg_none_of X G z_list, m_range := PySem.W.mg_none_of X G z_range, m_tuple := PySem.W.mg_none_of X G z_tuple, xa_Book := xa_Book, xn_Book := xn_Book, xt_Book := xt_Book, xm_Book := xm_Book, sf_Book := sf_Book }
  exact ⟨PySem.W.fnOf "law" "law" (defArgs s_law) (defBody s_law) (defScope s_law) .none kV_law dc_law pm_law an_law cd_law ct_law, fun s v => .of_eq rfl, fun base _ _ => ok_law T⟩
end K11
open PySem PySem.W PyProof.Rows
set_option maxHeartbeats 0 in
theorem PySem.Challenge.cw_plandays_k11_rules_in_a_book_holds : PySem.Challenge.rw_plandays_k11_rules_in_a_book.Holds := by
  w_on; o_law; k_head; (case hw => w_witness2)
  k_fill
  refine L2.walk_of (l := PySem.Challenge.rw_plandays_k11_rules_in_a_book) (n := 63) (k := 6) (x := "script") (CX := fun _ => L2.CX0) (sp := fun w => K11.spLaw _) rfl (by decide) rfl ⟨rfl, by decide, by decide⟩ (fun w h Y => PySem.W.kIn_of Y) ?F (fun _ _ a ns hl _ hS => ⟨a, ns, rfl, hS, hl, fun _ => rfl⟩) (fun _ _ _ _ _ h => h)
  case F =>
    intro w mg fa h KX G hmg
    refine' K11.all_mk KX G hmg ?aC_Book ?pg_Book ?hd_Book ?po_Book ?sa_Book ?ms_Book ?kc_Book ?n_Book_tasks ?n_Book_rules ?ga__TASKS_IN ?gl__TASKS_IN ?gk__TASKS_IN ?gs__TASKS_IN ?gv__TASKS_IN_before ?gv__TASKS_IN_upto ?gv__TASKS_IN_same ?gv__TASKS_IN_apart ?gv__TASKS_IN_far ?gv__TASKS_IN_next ?gv__TASKS_IN_first ?gv__TASKS_IN_last ?ga__OTHER_END ?gl__OTHER_END ?gk__OTHER_END ?gs__OTHER_END ?gv__OTHER_END_first ?gv__OTHER_END_last ?gv__OTHER_END_same ?gv__OTHER_END_apart ?ga__DIRECTED ?gl__DIRECTED ?gv__LONGEST_NAME ?a_is_name ?l_is_name ?c_is_name ?k_is_name ?a_check_tasks ?l_check_tasks ?c_check_tasks ?k_check_tasks ?a_check_rule ?l_check_rule ?c_check_rule ?k_check_rule ?a_turned ?l_turned ?c_turned ?k_turned ?a_Book_init ?i_Book_init ?l_Book_init ?c_Book_init ?k_Book_init ?a_Book_tasks ?ps_Book_tasks ?pt_Book_tasks ?pr_Book_tasks ?l_Book_tasks ?c_Book_tasks ?k_Book_tasks ?a_Book_rules ?ps_Book_rules ?pt_Book_rules ?pr_Book_rules ?l_Book_rules ?c_Book_rules ?k_Book_rules ?a_Book_with_rules ?i_Book_with_rules ?l_Book_with_rules ?c_Book_with_rules ?k_Book_with_rules ?a_Book_without ?i_Book_without ?l_Book_without ?c_Book_without ?k_Book_without ?a_Book_turned ?i_Book_turned ?l_Book_turned ?c_Book_turned ?k_Book_turned ?a_Book_and ?i_Book_and ?l_Book_and ?c_Book_and ?k_Book_and ?a_Book_contains ?i_Book_contains ?l_Book_contains ?c_Book_contains ?k_Book_contains ?a_Book_len ?i_Book_len ?l_Book_len ?c_Book_len ?k_Book_len ?a_law_deck ?l_law_deck ?c_law_deck ?k_law_deck ?a_law_draw ?l_law_draw ?c_law_draw ?k_law_draw ?a_law_names ?l_law_names ?c_law_names ?k_law_names ?a_law_rule ?l_law_rule ?c_law_rule ?k_law_rule ?a_law_data ?l_law_data ?c_law_data ?k_law_data ?a_law_strange ?l_law_strange ?c_law_strange ?k_law_strange ?a_law_bad_rule ?l_law_bad_rule ?c_law_bad_rule ?k_law_bad_rule ?a_law_order ?l_law_order ?c_law_order ?k_law_order ?a_law_backward ?l_law_backward ?c_law_backward ?k_law_backward ?a_law_near ?l_law_near ?c_law_near ?k_law_near ?a_law_asked ?l_law_asked ?c_law_asked ?k_law_asked ?a_law ?l_law ?c_law ?k_law ?z_all ?z_bool ?z_int ?z_isinstance ?z_len ?z_list ?z_range ?z_tuple ?xa_Book ?xn_Book ?xt_Book ?xm_Book ?sf_Book
    (case aC_Book => k_is)
    (case pg_Book => k_is)
    (case hd_Book => k_is)
    (case po_Book => k_is)
    (case sa_Book => k_is)
    (case ms_Book => k_is)
    (case kc_Book => k_is)
    (case n_Book_tasks => k_is)
    (case n_Book_rules => k_is)
    (case ga__TASKS_IN => k_is)
    (case gl__TASKS_IN => k_is)
    (case gk__TASKS_IN => k_keys)
    (case gs__TASKS_IN => decide)
    (case gv__TASKS_IN_before => k_is)
    (case gv__TASKS_IN_upto => k_is)
    (case gv__TASKS_IN_same => k_is)
    (case gv__TASKS_IN_apart => k_is)
    (case gv__TASKS_IN_far => k_is)
    (case gv__TASKS_IN_next => k_is)
    (case gv__TASKS_IN_first => k_is)
    (case gv__TASKS_IN_last => k_is)
    (case ga__OTHER_END => k_is)
    (case gl__OTHER_END => k_is)
    (case gk__OTHER_END => k_keys)
    (case gs__OTHER_END => decide)
    (case gv__OTHER_END_first => k_is)
    (case gv__OTHER_END_last => k_is)
    (case gv__OTHER_END_same => k_is)
    (case gv__OTHER_END_apart => k_is)
    (case ga__DIRECTED => k_is)
    (case gl__DIRECTED => k_is)
    (case gv__LONGEST_NAME => k_is)
    (case a_is_name => k_is)
    (case l_is_name => k_is)
    (case c_is_name => k_is)
    (case k_is_name => k_is)
    (case a_check_tasks => k_is)
    (case l_check_tasks => k_is)
    (case c_check_tasks => k_is)
    (case k_check_tasks => k_is)
    (case a_check_rule => k_is)
    (case l_check_rule => k_is)
    (case c_check_rule => k_is)
    (case k_check_rule => k_is)
    (case a_turned => k_is)
    (case l_turned => k_is)
    (case c_turned => k_is)
    (case k_turned => k_is)
    (case a_Book_init => k_is)
    (case i_Book_init => k_is)
    (case l_Book_init => k_is)
    (case c_Book_init => k_is)
    (case k_Book_init => k_is)
    (case a_Book_tasks => k_is)
    (case ps_Book_tasks => k_is)
    (case pt_Book_tasks => k_is)
    (case pr_Book_tasks => k_is)
    (case l_Book_tasks => k_is)
    (case c_Book_tasks => k_is)
    (case k_Book_tasks => k_is)
    (case a_Book_rules => k_is)
    (case ps_Book_rules => k_is)
    (case pt_Book_rules => k_is)
    (case pr_Book_rules => k_is)
    (case l_Book_rules => k_is)
    (case c_Book_rules => k_is)
    (case k_Book_rules => k_is)
    (case a_Book_with_rules => k_is)
    (case i_Book_with_rules => k_is)
    (case l_Book_with_rules => k_is)
    (case c_Book_with_rules => k_is)
    (case k_Book_with_rules => k_is)
    (case a_Book_without => k_is)
    (case i_Book_without => k_is)
    (case l_Book_without => k_is)
    (case c_Book_without => k_is)
    (case k_Book_without => k_is)
    (case a_Book_turned => k_is)
    (case i_Book_turned => k_is)
    (case l_Book_turned => k_is)
    (case c_Book_turned => k_is)
    (case k_Book_turned => k_is)
    (case a_Book_and => k_is)
    (case i_Book_and => k_is)
    (case l_Book_and => k_is)
    (case c_Book_and => k_is)
    (case k_Book_and => k_is)
    (case a_Book_contains => k_is)
    (case i_Book_contains => k_is)
    (case l_Book_contains => k_is)
    (case c_Book_contains => k_is)
    (case k_Book_contains => k_is)
    (case a_Book_len => k_is)
    (case i_Book_len => k_is)
    (case l_Book_len => k_is)
    (case c_Book_len => k_is)
    (case k_Book_len => k_is)
    (case a_law_deck => k_is)
    (case l_law_deck => k_is)
    (case c_law_deck => k_is)
    (case k_law_deck => k_is)
    (case a_law_draw => k_is)
    (case l_law_draw => k_is)
    (case c_law_draw => k_is)
    (case k_law_draw => k_is)
    (case a_law_names => k_is)
    (case l_law_names => k_is)
    (case c_law_names => k_is)
    (case k_law_names => k_is)
    (case a_law_rule => k_is)
    (case l_law_rule => k_is)
    (case c_law_rule => k_is)
    (case k_law_rule => k_is)
    (case a_law_data => k_is)
    (case l_law_data => k_is)
    (case c_law_data => k_is)
    (case k_law_data => k_is)
    (case a_law_strange => k_is)
    (case l_law_strange => k_is)
    (case c_law_strange => k_is)
    (case k_law_strange => k_is)
    (case a_law_bad_rule => k_is)
    (case l_law_bad_rule => k_is)
    (case c_law_bad_rule => k_is)
    (case k_law_bad_rule => k_is)
    (case a_law_order => k_is)
    (case l_law_order => k_is)
    (case c_law_order => k_is)
    (case k_law_order => k_is)
    (case a_law_backward => k_is)
    (case l_law_backward => k_is)
    (case c_law_backward => k_is)
    (case k_law_backward => k_is)
    (case a_law_near => k_is)
    (case l_law_near => k_is)
    (case c_law_near => k_is)
    (case k_law_near => k_is)
    (case a_law_asked => k_is)
    (case l_law_asked => k_is)
    (case c_law_asked => k_is)
    (case k_law_asked => k_is)
    (case a_law => k_is)
    (case l_law => k_is)
    (case c_law => k_is)
    (case k_law => k_is)
    (case z_all => k_is)
    (case z_bool => k_is)
    (case z_int => k_is)
    (case z_isinstance => k_is)
    (case z_len => k_is)
    (case z_list => k_is)
    (case z_range => k_is)
    (case z_tuple => k_is)
    (case xa_Book => k_is)
    (case xn_Book => k_is)
    (case xt_Book => k_is)
    (case xm_Book => k_is)
    (case sf_Book => k_is)

