import PyProof.Rows.All
import Wide.All
import OpenK.AllK
import Wide.FinOn
import HandS.ForMost
import HandS.Wide
import HandS.IsInst
import HandS.Codes
import HandS.Conv
import HandS.Style
import HandS.More
import HandS.Property
import HandS.Defaults
import HandS.MakeKwOnly
import KE.KDictZip
import HandS.Dict
import Flt.Len
import HandS.OwnEq
import HandS.SlotsOwn
import HandS.Star
import HandS.Walk
import HandS.Exc
import HandS.ExcOwn
import HandS.ExcInit
import HandS.ExcField
import HandS.ExcIs
import HandS.WordsExc
import HandS.NoneIn
import KE.KExcIs
import PySem.Challenge.RW_plandays_k08_beside_and_then
set_option Elab.async false
set_option linter.all false
set_option maxRecDepth 100000
namespace K08
open PySem PySem.Spec PyProof.Rows L2
/-! ### rules of my own over the layer's -/
theorem pe_bmK {X : Cx} {K : PySem.W.Frag} (hK : X.K = K) {o e : Expr} {es : List Expr} {to : TE} {t : TA} {name : Str} {apos cpos : Pos} {T id : String} {r : V → List V → Hp → VK → Prop}
    (pa : PlainAttrs T) (slot : Slot T name id) (ty : typeOf (.builtin id) = pure (.type "method_descriptor")) (hm : MtR X id r) (ho : PE X o to) (ha : PA X (e :: es) t)
    (h1 : attributeBase o name X.env (eval o X.env) = eval o X.env := by rfl)
    (h2 : ((backTo cpos (starEach (e :: es) X.env)).all (fun x => !x.1) && (backToKw cpos (keywordEach [] X.env)).all (fun x => x.1.isSome) && decide ((e :: es).length + ([] : List Keyword).length + (if ([] : List Keyword).isEmpty then 0 else 1) < 30)) = true := by rfl)
    (h3 : (apos.endLine == cpos.line) = true := by rfl) (h4 : starEach (e :: es) X.env = (false, eval e X.env) :: starEach es X.env := by rfl) (h5 : (backTo cpos (starEach es X.env)).any (·.1) = false := by rfl) :
    PE X (.Call (.Attribute o name apos) (e :: es) [] cpos) (tBM K T r to t) := by
  subst hK
  exact pe_bm pa slot ty hm ho ha h1 h2 h3 h4 h5
/-- len(x), x of an own class with its own __len__ -/
theorem call_lenOwn {X : Cx} {k : Nat} {C f : Addr} {fd : FuncData} {ps : List Str} {sp : Sp} (c : Cls X.K C) (m : Meth X.K C "__len__" f) (F : FnOk X.prog X.w X.K X.mg X.base CX0 k f fd ps sp) (hr : Room (k + 1) X.A) (hb : Binds X.K fd ps []) :
    CallR X (.builtin "len") (fun xs H Q => ∃ a dx fs, xs = [.ref a] ∧ H a = some (.ins C dx fs) ∧ sp [.ref a] H (fun v H' => ∃ n : Int, v = .int n ∧ 0 ≤ n ∧ n < 2 ^ 63 ∧ Q (.int n) H') E0) := by
  intro pins s σ H xs us Q I r h
  obtain ⟨a, dx, fs, rfl, ea, h⟩ := h
  obtain ⟨u, rfl, ru⟩ := vals1 r
  obtain rfl : u = Value.ref a := ru
  obtain ⟨mA, O, _⟩ := ins_get I.hok ea
  obtain ⟨od, J, _⟩ := O.look
  have hl : ([Value.ref a] ++ ([] : List Value)).length = ps.length := by
    rw [← F.len _ _ _ _ h]
    rfl
  refine Calls.call_function_entry kind_len plain_len entry_len (args_len1 _) ?_
  unfold Builtin.«len»
  refine wpAny_bind (m := oneArg "len" _) (wpAny_pure ?_)
  refine wpAny_bind (m := callSpecial? (.ref a) (Str.ofString "__len__")) (PySem.W.special_fn I.kIn J m.at_ (beq_iff_eq.mp m.fn) ?_)
  refine wpAny_call (codeAny_mono (F.run X.A.in1 X.stack s H ⟨[.ref a], []⟩ [.ref a] [.ref a] _ E0 hr.in1 I.env0.in1 (hb s [.ref a] I.kIn hl) (.cons rfl .nil) h) fun r s' hq => ?_)
  cases r with
  | error er => exact False.elim hq
  | ok fl =>
    cases fl with
    | ret u =>
      obtain ⟨v, H', I3, rv, n, ev, n0, n1, q3⟩ := I.after hq
      subst ev
      obtain ⟨t, rfl⟩ := rv
      refine wpAny_bind (wpAny_holding (wpAny_pure ?_))
      refine wpAny_bind (wpAny_letGo ?_)
      show wpAny _ _ (if n < 0 then _ else _) _ _ _
      rw [if_neg (by omega)]
      show wpAny _ _ (if n ≥ 2 ^ 63 then _ else _) _ _ _
      rw [if_neg (by omega)]
      exact wpAny_bind (wpAny_mkInt (wpAny_pure ⟨_, rfl, .int n, H', I3.tok _, ⟨_, rfl⟩, q3⟩))
    | next => exact False.elim hq
    | brk => exact False.elim hq
    | cont => exact False.elim hq
/-- an item of a dict that the module holds -/
theorem ix_kd {X : Cx} {d : Addr} {es : Array DictEntry} {n : Nat} (D : KDict X.K X.w d es n) : IxR X (fun x y H Q => ∃ (z : Str) (u0 : Value) (v0 : V), x = .ref d ∧ y = .str z ∧ PySem.W.nsIn X.K d z = some (some u0) ∧ RelV v0 u0 ∧ Q v0 H) := by
  intro value slice pins s σ H x y v u Q I rx ry h hs
  have hx : x = .ref d := by
    obtain ⟨z, u0, v0, hx, _⟩ := h
    exact hx
  have h2 := op_item_kd D pins s σ H x y v u Q I rx ry h
  subst hx
  obtain rfl : v = Value.ref d := rx
  exact tail_any (kd_type D I) PySem.slot_dict_getitem.lookup h2 hs
/-- the readings of list(..) and len(..), named -/
def rList (K : PySem.W.Frag) : List V → Hp → VK → Prop := fun xs H Q => ∃ p ys, xs = [.ref p] ∧ (SqL K H p ys ∨ SqT K H p ys) ∧ ∀ l, H l = none → Q (.ref l) (upd H l (.lst ys))
def rLen (K : PySem.W.Frag) : List V → Hp → VK → Prop := fun xs H Q => ∃ p ys, xs = [.ref p] ∧ (SqL K H p ys ∨ SqT K H p ys) ∧ Q (.int ys.length) H
/-- dict(zip(a, b)) -/
def tDictZip (K : PySem.W.Frag) (ta : TA) : TE := fun σ H Q => ta σ H fun vs H1 => ∃ (a b : Addr) (ks : List Key) (ys : List V), vs = [.ref a, .ref b] ∧ SqL K H1 a (ks.map kV) ∧ SqL K H1 b ys ∧ ks.length = ys.length ∧ ∀ d, H1 d = none → Q (.ref d) (upd H1 d (.dK (mergeK [] (ks.zip ys))))
theorem kv_zip : ∀ {ks : List Key} {ys : List V} {us : List Value}, Vals ys us → KV (ks.zip ys) (ks.zip us)
  | [], _, _, _ => .nil
  | _ :: _, _, _, .nil => .nil
  | _ :: _, _, _, .cons r t => .cons ⟨rfl, r⟩ (kv_zip t)
theorem pe_dictZip {X : Cx} {e1 e2 : Expr} {ta : TA} {p p2 pos pos2 : Pos} (hc : X.calm = true) (hg : Gl X "dict") (hm : X.mg "dict" = none) (hg2 : Gl X "zip") (hm2 : X.mg "zip" = none) (ha : PA X [e1, e2] ta)
    (na : starEach [.Call (.Name "zip" p2) [e1, e2] [] pos2] X.env = (false, eval (.Call (.Name "zip" p2) [e1, e2] [] pos2) X.env) :: starEach [] X.env := by rfl)
    (hs : starEach [e1, e2] X.env = (false, eval e1 X.env) :: starEach [e2] X.env := by rfl) (hpl : (backTo pos2 (starEach [e2] X.env)).any (·.1) = false := by rfl) :
    PE X (.Call (.Name "dict" p) [.Call (.Name "zip" p2) [e1, e2] [] pos2] [] pos) (tDictZip X.K ta) := by
  refine ⟨fun pins s σ H Q I h => ?_⟩
  refine Call_ (ld_blt I hg hm PyProof.Rows.boot_dict (PyProof.Rows.callWith_type1 (args_cons (Call_ (ld_blt I hg2 hm2 PyProof.Rows.boot_zip (PyProof.Rows.callWith_type1 (thn (ha.run pos2 pins s σ H _ I h) fun us s1 ⟨vs, H1, I1, r1, q1⟩ => ?_) hs hpl))) na) na))
  obtain ⟨a, b, ks, ys, ex, hqx, hqy, hlen, q⟩ := q1
  subst ex
  obtain ⟨u1, u2, rfl, ra, rb⟩ := vals2 r1
  obtain rfl : u1 = Value.ref a := ra
  obtain rfl : u2 = Value.ref b := rb
  obtain ⟨its, rv, p1, z1⟩ := I1.list hqx
  obtain ⟨its2, rv2, p2, _⟩ := I1.list hqy
  have la : a < s1.heap.objs.size := p1.lt
  have lb : b < s1.heap.objs.size := p2.lt
  have n1 := rv.length
  have n2 := rv2.length
  rw [List.length_map] at n1 z1
  refine call_zip_2 p1.isList p2.isList fun h' hz hTI hTO h1 h2 hsz hk => args_nil ?_
  refine PySem.call_dict_pairs (knd := mixKind X.prog X.w) (kvs := ks.zip its2) (PairArg.zip _ _ _ _ _ _ _ (PySem.W.ktu_apart s1.heap.objs.size a b la lb) its.toArray its2.toArray) (I1.ok.hd hc)
    ⟨hz, hTI, ⟨_, _, hTO⟩, h1, h2, p1.isList.at fun o e => hk _ _ e, p2.isList.at fun o e => hk _ _ e⟩ ⟨?_, fun i key v hr => ?_⟩ ?_ fun h'' tk hd' hk' => ?_
  · rw [List.length_zip, List.size_toArray, List.size_toArray]
    omega
  · obtain ⟨e1, e2⟩ := hr
    have e1' : its[i]? = some key := by simpa using e1
    have e2' : its2[i]? = some v := by simpa using e2
    have hi : i < ks.length := by
      have := (List.getElem?_eq_some_iff.mp e1').1
      omega
    obtain ⟨w', hw, rw'⟩ := rv.get (i := i) (x := kV ks[i]) (by rw [List.getElem?_map, List.getElem?_eq_getElem hi]; rfl)
    rw [e1'] at hw
    obtain rfl := Option.some.inj hw
    refine ⟨ks[i], ?_, kV_is rw'⟩
    rw [List.getElem?_zip_eq_some]
    exact ⟨List.getElem?_eq_getElem hi, e2'⟩
  · rw [List.size_toArray]
    have : min its.length its2.toArray.size ≤ its.length := Nat.min_le_left _ _
    omega
  · have es : h'.objs.size = s1.heap.objs.size + 5 := hsz
    have hm' : (h'.objs.size == sysModules) = false := beq_eq_false_iff_ne.mpr (Nat.ne_of_gt (Nat.lt_of_lt_of_le I1.big (by rw [es]; exact Nat.le_add_right _ _)))
    have hl2 : (mergeK [] (ks.zip ys)).length ≤ sizeLine := by
      refine Nat.le_trans (length_mergeK _ []) ?_
      rw [List.length_nil, Nat.zero_add, List.length_zip]
      omega
    have keep : ∀ c o, s1.heap.get? c = some o → h''.get? c = some o := fun c o e => by
      refine hk' c o ?_ (hk c o e)
      have := Heap.lt_size e
      simp only [List.mem_cons, List.not_mem_nil, or_false, not_or]
      refine ⟨fun z => ?_, fun z => ?_, fun z => ?_, fun z => ?_⟩ <;> rw [z] at this
      · exact absurd this (Nat.not_lt.mpr (Nat.le_add_right _ _))
      · exact absurd this (Nat.not_lt.mpr (Nat.le_add_right _ _))
      · exact absurd this (Nat.lt_irrefl _)
      · exact absurd this (Nat.not_lt.mpr (Nat.le_add_right _ _))
    exact ⟨.ref h'.objs.size, upd H1 h'.objs.size (.dK (mergeK [] (ks.zip ys))), I1.laid (t' := tk) keep (by omega) (show ObjOk X.prog X.w _ _ _ (.dK (mergeK [] (ks.zip ys))) from ⟨hl2, hm', merged [] (ks.zip its2), KV.merge (kv_zip rv2) .nil, hd'⟩), rfl, q _ (I1.hok.fresh (by omega))⟩
theorem pe_callN0 {X : Cx} {CX : CXT} {k : Nat} {f : Addr} {fd : FuncData} {ps ks : List Str} {sp : Sp} {E : XK} {x : Str} {p pos : Pos} {kws : List Keyword} {tk : TA} {g : List Value → List Value → List Value} {gV : List V → List V → List V}
    (F : FnOk X.prog X.w X.K X.mg X.base CX k f fd ps sp) (hr : Room k X.A) (hg : Gl X x) (hm : X.mg x = some (.ref f)) (kp : PySem.W.keepIn X.K (.ref f) = true) (hb : KBn X.K fd ps 0 ks g gV) (hx : Passes CX X E) (hkw : PK X kws tk)
    (h1 : (backToKw pos (keywordEach kws X.env)).all (·.1.isSome) = true := by rfl) (h2 : (backToKw pos (keywordEach kws X.env)).filterMap (·.1) = ks := by rfl) (h3 : (x == ("__debug__" : Str)) = false := by decide)
    (h4 : ((backTo pos (starEach [] X.env)).any (·.1) || (backToKw pos (keywordEach kws X.env)).any (·.1.isNone)) = false := by rfl) :
    PE X (.Call (.Name x p) [] kws pos) (tCallN 0 ks.length sp gV E tNil tk) := by
  refine ⟨fun pins s σ H Q I h => wpAny_Call_Name_kw (ld_glob I hg hm ?_ h3)⟩
  refine PySem.W.callWith_KW0 (h₀ := X.base) I.ok.mod.kin kp h1 ?_ h4
  refine thn (hkw.run pos pins s σ H _ I h) fun ws s2 ⟨zs, H2, I2, rz, l1, l2, q2⟩ => ⟨I2.kIn, ?_⟩
  rw [h2]
  exact run_fnN (us := []) (vs := []) F hr hb hx I2 .nil rz rfl l2 q2
/-- o.m(k = v, ..), nothing by position -/
def tMethN (C : Addr) (m : Str) (n : Nat) (sp : Sp) (gV : List V → List V → List V) (E : XK) (ta : TE) (tk : TA) : TE := fun σ H Q => ta σ H fun x H1 => ∃ (a dx : Addr) (fs : List (Str × V)), x = .ref a ∧ H1 a = some (.ins C dx fs) ∧ fs.lookup m = none ∧ tk σ H1 fun zs H2 => zs.length = n ∧ sp (gV [.ref a] zs) H2 Q E
theorem pe_methN0 {X : Cx} {CX : CXT} {k : Nat} {C f : Addr} {fd : FuncData} {ps ks : List Str} {sp : Sp} {E : XK} {m : Str} {apos pos : Pos} {o : Expr} {kws : List Keyword} {ta : TE} {tk : TA} {g : List Value → List Value → List Value} {gV : List V → List V → List V} {pl : Sem Bool}
    (he : PE X o ta) (c : Cls X.K C) (hm : Meth X.K C m f) (F : FnOk X.prog X.w X.K X.mg X.base CX k f fd ps sp) (hr : Room k X.A) (hb : KBn X.K fd ps 1 ks g gV) (hx : Passes CX X E) (hkw : PK X kws tk)
    (h1 : (backToKw pos (keywordEach kws X.env)).all (·.1.isSome) = true := by rfl) (h2 : (backToKw pos (keywordEach kws X.env)).filterMap (·.1) = ks := by rfl)
    (h4 : ((backTo pos (starEach [] X.env)).any (·.1) || (backToKw pos (keywordEach kws X.env)).any (·.1.isNone)) = false := by rfl)
    (ht : eval (.Call (.Attribute o m apos) [] kws pos) X.env = (do let ov ← eval o X.env; standAt apos.atName; let (f, first) ← holding [ov] (getMethod ov m pl); callWith pos f first (backTo pos (starEach [] X.env)) (backToKw pos (keywordEach kws X.env))) := by rfl) :
    PE X (.Call (.Attribute o m apos) [] kws pos) (tMethN C m ks.length sp gV E ta tk) := by
  refine ⟨fun pins s σ H Q I h => PySem.W.methodCall_KW (pl := pl) (thn (he.run pins s σ H _ I h) fun u s1 ⟨x, H1, I1, rx, a, dx, fs, ex, ea, l, q⟩ => ?_) ht⟩
  subst ex
  obtain rfl : u = Value.ref a := rx
  refine getmeth_ok I1 ea c hm l (PySem.W.callWith_KW0 (first := [.ref a]) (h₀ := X.base) I.ok.mod.kin hm.kp h1 (thn (hkw.run pos pins s1 σ H1 _ I1 q) fun ws s2 ⟨zs, H2, I2, rz, l2, q2⟩ => ⟨I2.kIn, ?_⟩) h4)
  rw [h2]
  exact run_fnN (us := [.ref a]) (vs := [.ref a]) F hr hb hx I2 (.cons rfl .nil) rz rfl l2 q2
/-! ### a dict of the module: d.get(k, x) -/
def tGetKD (K : PySem.W.Frag) (d : Addr) (td ty tx : TE) : TE := fun σ H Q => td σ H fun x H1 => x = .ref d ∧ ty σ H1 fun y H2 => tx σ H2 fun z H3 => ∃ (k : Str) (r : Option Value) (v0 : V), y = .str k ∧ PySem.W.nsIn K d k = some r ∧ (r = none → v0 = z) ∧ (∀ u0, r = some u0 → RelV v0 u0) ∧ Q v0 H3
theorem pe_getKD {X : Cx} {o e f : Expr} {apos cpos : Pos} {td ty tx : TE} {d : Addr} {es : Array DictEntry} {n : Nat} (D : KDict X.K X.w d es n) (ho : PE X o td) (he : PE X e ty) (hf : PE X f tx) (m : M2 X o "get" apos e f cpos) : PE X (.Call (.Attribute o "get" apos) [e, f] [] cpos) (tGetKD X.K d td ty tx) := by
  refine ⟨fun pins s σ H Q I h => ?_⟩
  refine wpAny_Call_method m.base m.few m.line PySem.F.plainAttrs_dict PySem.F.slot_dict_get PySem.F.type_dict_get (thn (ho.run pins s σ H _ I h) fun u s1 ⟨x, H1, I1, rx, ex, q1⟩ => ?_)
  subst ex
  obtain rfl : u = Value.ref d := rx
  refine ⟨kd_type D I1, fun b q => ?_, ?_⟩
  · cases q
    exact ⟨_, I1.kIn _ _ D.at_, rfl⟩
  rw [m.trees]
  refine Calls.callWith_builtin rfl (Calls.evalArgs_plain (Calls.spliced_cons (thn (he.run pins s1 σ H1 _ I1 q1) fun iv s2 ⟨y, H2, I2, ry, q2⟩ =>
    Calls.spliced_cons (thn (hf.run pins s2 σ H2 _ I2 q2) fun fv s3 ⟨z, H3, I3, rz, k, r, v0, ey, hn, h0, h1, q3⟩ => Calls.spliced_nil ?_))))
  subst ey
  obtain ⟨t, rfl⟩ := ry
  have M := PySem.W.mapOf_K (prog := X.prog) (w := X.w) I3.kIn D.at_ D.lit
  refine call_meetsIn PySem.F.slot_dict_get M.typeIs PySem.F.entry_dict_get (PySem.F.args_dict_get_3 _ _ _) (meets_dict_get_default (strKind X.prog X.w) d (PySem.strKind_is X.prog X.w k t) D.low fv) ⟨_, M, ?_⟩
  have e := PySem.W.find_K D.at_ hn
  rw [e]
  refine ⟨v0, H3, I3.tok _, ?_, q3⟩
  cases r with
  | none => rw [h0 rfl]; exact rz
  | some u0 => exact h1 u0 rfl
/-! ### == of two instances of a class with its own __eq__ -/
def rEqOwn (C : Addr) (sp : Sp) (E : XK) : R2 := fun x y H Q => ∃ a b dx dy fs gs, x = .ref a ∧ y = .ref b ∧ H a = some (.ins C dx fs) ∧ H b = some (.ins C dy gs) ∧ sp [.ref a, .ref b] H Q E
theorem op_eqOwn {X : Cx} {k : Nat} {C f : Addr} {fd : FuncData} {ps : List Str} {sp : Sp} (m : Meth X.K C "__eq__" f) (F : FnOk X.prog X.w X.K X.mg X.base CX0 k f fd ps sp) (hr : Room k X.A) (hb : Binds X.K fd ps []) : OpR X (compareOp .Eq) (rEqOwn C sp E0) := by
  intro pins s σ H x y v u Q I rx ry h
  obtain ⟨a, b, dx, dy, fs, gs, rfl, rfl, ha, hb', h⟩ := h
  obtain rfl : v = Value.ref a := rx
  obtain rfl : u = Value.ref b := ry
  obtain ⟨mA, J, _⟩ := ins_get I.hok ha
  obtain ⟨mB, J', _⟩ := ins_get I.hok hb'
  obtain ⟨od, J, _⟩ := J.look
  obtain ⟨od', J', _⟩ := J'.look
  obtain ⟨m', hF⟩ := I.fr
  have hl : ([Value.ref a, Value.ref b] ++ ([] : List Value)).length = ps.length := by
    rw [← F.len _ _ _ _ h]
    rfl
  show wpAny (model X.prog X.w) X.A (richCompare .Eq (.ref a) (.ref b)) (EP X pins σ Q) X.xe s
  refine PySem.W.cmp_K (op := .Eq) (tb := .ref C) hr.units0 hF I.ok.mod.kin J J'.type (by simp [PySem.W.notFirst]) m.at_ m.fn ?_
  refine wpAny_call (codeAny_mono (F.run X.A X.stack s H ⟨[.ref a, .ref b], []⟩ [.ref a, .ref b] [.ref a, .ref b] _ E0 hr I.env0 (hb s [.ref a, .ref b] I.kIn hl) (.cons rfl (.cons rfl .nil)) h) fun r s' hq => ?_)
  cases r with
  | error er => exact False.elim hq
  | ok fl =>
    cases fl with
    | ret w =>
      obtain ⟨z', H', I', rz, qz⟩ := I.after hq
      exact SlX.cmpback rz ⟨z', H', I', rz, qz⟩
    | next => exact False.elim hq
    | brk => exact False.elim hq
    | cont => exact False.elim hq
/-! ### x & y of two instances of a class with its own __and__ -/
theorem op_andOwn {X : Cx} {k : Nat} {C f : Addr} {fd : FuncData} {ps : List Str} {sp : Sp} (hc : PySem.W.selfFirst X.K C = true) (m : Meth X.K C "__and__" f) (F : FnOk X.prog X.w X.K X.mg X.base CX0 k f fd ps sp) (hr : Room k X.A) (hb : Binds X.K fd ps []) : OpR X (binaryOp .BitAnd) (rEqOwn C sp E0) := by
  intro pins s σ H x y v u Q I rx ry h
  obtain ⟨a, b, dx, dy, fs, gs, rfl, rfl, ha, hb', h⟩ := h
  obtain rfl : v = Value.ref a := rx
  obtain rfl : u = Value.ref b := ry
  obtain ⟨mA, J, _⟩ := ins_get I.hok ha
  obtain ⟨mB, J', _⟩ := ins_get I.hok hb'
  obtain ⟨od, J, _⟩ := J.look
  obtain ⟨od', J', _⟩ := J'.look
  obtain ⟨m', hF⟩ := I.fr
  have hl : ([Value.ref a, Value.ref b] ++ ([] : List Value)).length = ps.length := by
    rw [← F.len _ _ _ _ h]
    rfl
  refine PySem.W.binop_K (op := .BitAnd) hF I.ok.mod.kin J J'.type hc m.at_ m.fn ?_
  refine wpAny_call (codeAny_mono (F.run X.A X.stack s H ⟨[.ref a, .ref b], []⟩ [.ref a, .ref b] [.ref a, .ref b] _ E0 hr I.env0 (hb s [.ref a, .ref b] I.kIn hl) (.cons rfl (.cons rfl .nil)) h) fun r s' hq => ?_)
  cases r with
  | error er => exact False.elim hq
  | ok fl =>
    cases fl with
    | ret w =>
      obtain ⟨z', H', I', rz, qz⟩ := I.after hq
      exact SlX.cmpback rz ⟨z', H', I', rz, qz⟩
    | next => exact False.elim hq
    | brk => exact False.elim hq
    | cont => exact False.elim hq
theorem pe_fldK {X : Cx} {K : PySem.W.Frag} (hK : X.K = K) {e : Expr} {f : Str} {pos : Pos} {ta : TE} (he : PE X e ta) (hb : attributeBase e f X.env (eval e X.env) = eval e X.env) : PE X (.Attribute e f pos) (tFld K ta f) := by
  subst hK
  exact pe_fld he hb
/-! ### errors with one value: made, raised, passed on -/
theorem passE {X : Cx} {E : XK} (tk : Takes X (fun cls d _ H => E cls d H)) : Passes (L2.CX X.prog X.w) X E := fun pins σ H s e s' I c => passes_call tk (fun _ _ _ _ h => h) pins σ H s e s' I c
def sp_einit (K : PySem.W.Frag) : Sp := fun vs H Q _ => ∃ (a C : Addr) (y : V), vs = [.ref a, y] ∧ OexC K C ∧ PySem.W.findIn K (.ref C) "value" = some none ∧ H a = some (exo a C none) ∧ ∀ dx, H dx = none → dx ≠ a → Q .non (upd (upd H dx (exd dx [(("value" : Str), y)])) a (exo a C (some dx)))
theorem raised {K : PySem.W.Frag} {C : Addr} {y : V} {H : Hp} {W : Value → Option Addr → Hp → Prop} (ox : OexC K C) (nv : PySem.W.findIn K (.ref C) "value" = some none) (k : ∀ d H', H d = none → Same H H' → H' d = some (.xd [(("value" : Str), y)]) → W (.ref C) (some d) H') :
    ∀ a, H a = none → sp_einit K (.ref a :: ([y] ++ [])) (upd H a (exo a C none)) (fun v H2 => v = .non ∧ ∃ (d : Addr) (fs : List (Str × V)), H2 a = some (exo a C (some d)) ∧ H2 d = some (exd d fs) ∧ H d = none ∧ W (.ref C) (some d) (upd (del H2 a) d (.xd fs))) (fun _ _ _ => False) := by
  intro a ha
  refine ⟨a, C, y, rfl, ox, nv, upd_same, fun dx hdx ne => ⟨rfl, dx, _, upd_same, by rw [upd_ne ne, upd_same], ?_, ?_⟩⟩
  · rw [upd_ne ne] at hdx
    exact hdx
  · rw [upd_ne ne] at hdx
    refine k dx _ hdx (fun b o e => ?_) upd_same
    have n1 := ne_of_none e hdx
    have n2 := ne_of_none e ha
    rw [upd_ne n1, del_ne n2, upd_ne n2, upd_ne n1, upd_ne n2]
    exact e
/-! ### calls whose errors a try around takes, at the slots -/
section
variable {X : Cx} {CX : CXT} {k : Nat} {f C : Addr} {fd : FuncData} {ps : List Str} {sp : Sp} {E : L2.St → XK} {m : Str} {pos apos : Pos} {e o : Expr} {es : List Expr} {ta tb : TE} {t : TA}
def tMethS (C : Addr) (m : Str) (sp : Sp) (E : L2.St → XK) (ta : TE) (t : TA) : TE := fun σ H Q => ta σ H fun x H1 => ∃ (a dx : Addr) (fs : List (Str × V)), x = .ref a ∧ H1 a = some (.ins C dx fs) ∧ fs.lookup m = none ∧ t σ H1 fun vs H2 => sp (.ref a :: vs) H2 Q (E σ)
theorem pe_methS {pl : Sem Bool} (he : PE X o ta) (c : Cls X.K C) (hm : Meth X.K C m f) (F : FnOk X.prog X.w X.K X.mg X.base CX k f fd ps sp) (hr : Room k X.A) (hb : Binds X.K fd ps []) (hx : ∀ σ, PassesAt CX X σ (E σ)) (ha : PA X (e :: es) t)
    (hst : starEach (e :: es) X.env = (false, eval e X.env) :: starEach es X.env := by rfl) (hpl : (backTo pos (starEach es X.env)).any (·.1) = false := by rfl)
    (ht : eval (.Call (.Attribute o m apos) (e :: es) [] pos) X.env = (do
      let ov ← eval o X.env
      standAt apos.atName
      let (f, first) ← holding [ov] (getMethod ov m pl)
      callWith pos f first (backTo pos (starEach (e :: es) X.env)) (backToKw pos (keywordEach [] X.env))) := by rfl) :
    PE X (.Call (.Attribute o m apos) (e :: es) [] pos) (tMethS C m sp E ta t) := by
  refine ⟨fun pins s σ H Q I h => ?_⟩
  refine PySem.W.methodCall_KW (pl := pl) (thn (he.run pins s σ H _ I h) fun u s1 ⟨x, H1, I1, rx, a, dx, fs, ex, ea, l, q⟩ => ?_) ht
  subst ex
  obtain rfl : u = Value.ref a := rx
  refine getmeth_ok I1 ea c hm l ?_
  refine PySem.W.callWith_K (first := [.ref a]) (h₀ := X.base) I.ok.mod.kin hm.kp (thn (ha.run pos pins s1 σ H1 _ I1 q) fun us s2 ⟨vs, H2, I2, r, q2⟩ => ⟨I2.kIn, ?_⟩) hst hpl
  exact run_fnS (us := .ref a :: us) (vs := .ref a :: vs) F hr hb (hx σ) I2 (.cons rfl r) q2
theorem run_fnNS {n : Nat} {ks : List Str} {g : List Value → List Value → List Value} {gV : List V → List V → List V} {pins : List (Addr × Obj)} {σ : L2.St} {H : Hp} {s : Shared} {Q : VK} {us ws : List Value} {vs zs : List V} (F : FnOk X.prog X.w X.K X.mg X.base CX k f fd ps sp) (hr : Room k X.A) (hb : KBn X.K fd ps n ks g gV) (hx : PassesAt CX X σ (E σ))
    (I : Inv X pins σ H s) (r : Vals vs us) (rz : Vals zs ws) (l1 : vs.length = n) (l2 : zs.length = ks.length) (h : sp (gV vs zs) H Q (E σ)) : wpAny (model X.prog X.w) X.A (call (.ref f) us (ks.zip ws)) (EP X pins σ Q) X.xe s := by
  have r2 := hb.rel r rz
  refine wpAny_call (codeAny_mono (F.run X.A X.stack s H ⟨us, ks.zip ws⟩ (g us ws) (gV vs zs) Q (E σ) hr I.env0 (hb.to s us ws I.kIn (r.length.symm.trans l1) (rz.length.symm.trans l2)) r2 h) fun r s' hq => ?_)
  cases r with
  | error e => exact hx pins H s e s' I hq
  | ok fl =>
    cases fl with
    | ret u => exact I.after hq
    | next => exact False.elim hq
    | brk => exact False.elim hq
    | cont => exact False.elim hq
def tMethNS (C : Addr) (m : Str) (n : Nat) (sp : Sp) (gV : List V → List V → List V) (E : L2.St → XK) (ta : TE) (tk : TA) : TE := fun σ H Q => ta σ H fun x H1 => ∃ (a dx : Addr) (fs : List (Str × V)), x = .ref a ∧ H1 a = some (.ins C dx fs) ∧ fs.lookup m = none ∧ tk σ H1 fun zs H2 => zs.length = n ∧ sp (gV [.ref a] zs) H2 Q (E σ)
theorem pe_methNS {ks : List Str} {kws : List Keyword} {tk : TA} {g : List Value → List Value → List Value} {gV : List V → List V → List V} {pl : Sem Bool}
    (he : PE X o ta) (c : Cls X.K C) (hm : Meth X.K C m f) (F : FnOk X.prog X.w X.K X.mg X.base CX k f fd ps sp) (hr : Room k X.A) (hb : KBn X.K fd ps 1 ks g gV) (hx : ∀ σ, PassesAt CX X σ (E σ)) (hkw : PK X kws tk)
    (h1 : (backToKw pos (keywordEach kws X.env)).all (·.1.isSome) = true := by rfl) (h2 : (backToKw pos (keywordEach kws X.env)).filterMap (·.1) = ks := by rfl)
    (h4 : ((backTo pos (starEach [] X.env)).any (·.1) || (backToKw pos (keywordEach kws X.env)).any (·.1.isNone)) = false := by rfl)
    (ht : eval (.Call (.Attribute o m apos) [] kws pos) X.env = (do let ov ← eval o X.env; standAt apos.atName; let (f, first) ← holding [ov] (getMethod ov m pl); callWith pos f first (backTo pos (starEach [] X.env)) (backToKw pos (keywordEach kws X.env))) := by rfl) :
    PE X (.Call (.Attribute o m apos) [] kws pos) (tMethNS C m ks.length sp gV E ta tk) := by
  refine ⟨fun pins s σ H Q I h => PySem.W.methodCall_KW (pl := pl) (thn (he.run pins s σ H _ I h) fun u s1 ⟨x, H1, I1, rx, a, dx, fs, ex, ea, l, q⟩ => ?_) ht⟩
  subst ex
  obtain rfl : u = Value.ref a := rx
  refine getmeth_ok I1 ea c hm l (PySem.W.callWith_KW0 (first := [.ref a]) (h₀ := X.base) I.ok.mod.kin hm.kp h1 (thn (hkw.run pos pins s1 σ H1 _ I1 q) fun ws s2 ⟨zs, H2, I2, rz, l2, q2⟩ => ⟨I2.kIn, ?_⟩) h4)
  rw [h2]
  exact run_fnNS (us := [.ref a]) (vs := [.ref a]) F hr hb (hx σ) I2 (.cons rfl .nil) rz rfl l2 q2
/-- o[i], o of an own class with its own __getitem__ -/
def tIxOwn (C : Addr) (sp : Sp) (E : L2.St → XK) (ta tb : TE) : TE := fun σ H Q => ta σ H fun x H1 => tb σ H1 fun y H2 => ∃ (a dx : Addr) (fs : List (Str × V)), x = .ref a ∧ H2 a = some (.ins C dx fs) ∧ sp [.ref a, y] H2 Q (E σ)
theorem pe_ixOwn (m : Meth X.K C "__getitem__" f) (hfn : PySem.W.fnIn X.K f = true) (F : FnOk X.prog X.w X.K X.mg X.base CX k f fd ps sp) (hr : Room (k + 1) X.A) (hb : Binds X.K fd ps []) (hx : ∀ σ, PassesAt CX X σ (E σ)) (ha : PE X o ta) (hbe : PE X e tb)
    (hsl : ∀ x i, subscripted e true (.ref x) i = runValue (.builtin "lifetime.subscript" ⟨[.ref x, i], []⟩) := by intro _ _; rfl) : PE X (.Subscript o e pos) (tIxOwn C sp E ta tb) := by
  refine ⟨fun pins s σ H Q I h => ?_⟩
  refine Subscript_ (thn (ha.run pins s σ H _ I h) fun v s1 ⟨x, H1, I1, r1, q1⟩ => thn (hbe.run pins s1 σ H1 _ I1 q1) fun u s2 ⟨y, H2, I2, r2, a, dx, fs, ex, ea, q2⟩ => ?_)
  subst ex
  obtain rfl : v = Value.ref a := r1
  obtain ⟨mA, O, _⟩ := ins_get I2.hok ea
  obtain ⟨od, J, _⟩ := O.look
  obtain ⟨m', hF⟩ := I2.fr
  have hl : ([Value.ref a, u] ++ ([] : List Value)).length = ps.length := by
    rw [← F.len _ _ _ _ q2]
    rfl
  refine PySem.W.sub_K hF I.ok.mod.kin J m.at_ hfn m.fn ?_ (hsl _ _)
  refine wpAny_call (codeAny_mono (F.run X.A.in1 X.stack s2 H2 ⟨[.ref a, u], []⟩ [.ref a, u] [.ref a, y] _ (E σ) hr.in1 I2.env0.in1 (hb s2 [.ref a, u] I2.kIn hl) (.cons rfl (.cons r2 .nil)) q2) fun r s' hq => ?_)
  cases r with
  | error er => exact hx σ pins H2 s2 er s' I2 hq
  | ok fl =>
    cases fl with
    | ret w => exact I2.after hq
    | next => exact False.elim hq
    | brk => exact False.elim hq
    | cont => exact False.elim hq
end
/-- outside of a try nothing is let out: the promise must say so -/
theorem passLS {X : Cx} (σ : L2.St) : PassesAt (L2.CX X.prog X.w) X σ E0 := fun pins H s e s' I c => passL pins σ H s e s' I c
theorem pass0S {X : Cx} {E : XK} (σ : L2.St) : PassesAt CX0 X σ E := fun _ _ _ _ _ _ c => c.elim
theorem passES {X : Cx} {E : XK} (tk : Takes X (fun cls d _ H => E cls d H)) (σ : L2.St) : PassesAt (L2.CX X.prog X.w) X σ E := fun pins H s e s' I c => passE tk pins σ H s e s' I c
/-! ### isinstance(e, c) of a caught error that has its field -/
def rIsX (K : PySem.W.Frag) (D a : Addr) (cls : Value) (d : Option Addr) : List V → Hp → VK → Prop := fun xs H Q => ∃ (dd : Addr) (fs : List (Str × V)) (c : V) (cv : Value) (b : Bool), cls = .ref D ∧ d = some dd ∧ H dd = some (.xd fs) ∧ xs = [.ref a, c] ∧ (∀ u, RelV c u → u = cv) ∧ PySem.W.kitOne K (.ref D) cv = some b ∧ Q (.bl b) H
theorem call_isX {X : Cx} {a D : Addr} {oe : Obj} {cls : Value} {d : Option Addr} {pn : List (Addr × Obj)} (C : ExcC X.K D) (hz : Zc cls d oe) (hf : ∃ vs, oe.data = .fields vs) : CallR (X.suite a ((a, oe) :: pn)) (.builtin "isinstance") (rIsX X.K D a cls d) := by
  intro pins s σ H xs us Q I r h
  obtain ⟨dd, fs, c, cv, b, ec, ed, ea, rfl, hcv, e, q⟩ := h
  subst ec ed
  match us, r with
  | [_, _], .cons rx (.cons rt .nil) =>
    cases rx
    have ecv := hcv _ rt
    subst ecv
    have got := (I.pin (a, oe) (List.mem_append_left _ List.mem_cons_self)).1
    obtain ⟨vs, hv⟩ := hf
    have hx : ObjOk X.prog X.w H s.heap dd (.xd fs) := I.hok dd _ ea
    obtain ⟨mA, hns, _⟩ := hx
    obtain ⟨od, ho, _⟩ := lookIn_ns hns
    have J : PySem.W.InstAt s.heap a oe D (some od) := ⟨got, hz.1, by unfold PySem.W.notCls; rw [hv] <;> rfl, by rw [hz.2]; exact ho⟩
    have hcl : (PySem.W.clsIn X.K D).isSome = true := by
      obtain ⟨cd, hc, _⟩ := PySem.W.any_some C.hd
      rw [hc]
      rfl
    exact PySem.W.kia_one (PySem.W.kitx_exc hcl C.hg C.hk C.hs C.ha C.hn C.ht C.hm) I.kIn J e (fun z => nomatch z) fun tk => ⟨.bl b, H, I.kept (t' := tk) fun _ _ z => z, rfl, q⟩
/-! ### a test whose ways are joined before the branches -/
def tJn (t : TT) : TT := fun σ H Q => ∃ J : Bool → Hp → Prop, t σ H J ∧ ∀ b H', J b H' → Q b H'
theorem pt_join {X : Cx} {e : Expr} {t : TT} (h : PT X e t) : PT X e (tJn t) := by
  refine ⟨fun pins s σ H Q I hw => ?_⟩
  obtain ⟨J, h1, h2⟩ := hw
  exact thn (h.run pins s σ H J I h1) fun b s' ⟨H', I', q⟩ => ⟨H', I', h2 b H' q⟩
/-! ### over the items of a list that stands, for any step -/
theorem over_list {K : PySem.W.Frag} {p : Addr} {ys : List V} {Z : Hp} {step : V → Hp → (Hp → Prop) → Prop} {Fin : Hp → Prop} (J : Nat → Hp → Prop) (start : J 0 Z) (stands : ∀ n G, n ≤ ys.length → J n G → SqL K G p ys)
    (each : ∀ n y G, ys[n]? = some y → J n G → step y G (J (n + 1))) (done : ∀ G, J ys.length G → Fin G) :
    ∃ W : Nat → Nat → Hp → Prop, (∃ m, W 0 m Z) ∧ ∀ n m G, W n m G →
      ((Itl K p).stop n G ∧ Fin G) ∨ ((Itl K p).go n G ∧ ∃ Nx : Hp → Prop, (∀ G', Nx G' → ∃ m', m' < m ∧ W (n + 1) m' G') ∧ ∀ y G', (Itl K p).yld n G y G' → step y G' Nx) := by
  refine ⟨fun n m G => m = ys.length - n ∧ n ≤ ys.length ∧ J n G, ⟨ys.length, rfl, Nat.zero_le _, start⟩, ?_⟩
  rintro n m G ⟨rfl, le, j⟩
  have s := stands n G le j
  rcases Nat.lt_or_ge n ys.length with lt | ge
  · refine .inr ⟨⟨ys, ys[n], s, List.getElem?_eq_getElem lt⟩, J (n + 1), fun G' j' => ⟨ys.length - (n + 1), by omega, rfl, lt, j'⟩, fun y G' yl => ?_⟩
    obtain ⟨rfl, at_⟩ := yl
    exact each n y _ (at_ ys s) j
  · obtain rfl : n = ys.length := by omega
    exact .inl ⟨⟨ys, s, Nat.le_refl _⟩, done G j⟩
/-! ### walks and joins within a comprehension: K given -/
theorem pi_listK {X : Cx} {K : PySem.W.Frag} (hK : X.K = K) {tg l : Expr} {tl : TE} (hl : PE X l tl) : PI X tg l (iList K tl) := by
  subst hK
  exact pi_list hl
theorem pi_tupK {X : Cx} {K : PySem.W.Frag} (hK : X.K = K) {tg l : Expr} {tl : TE} (hl : PE X l tl) : PI X tg l (iTup K tl) := by
  subst hK
  exact pi_tup hl
theorem pi_enumK {X : Cx} {K : PySem.W.Frag} (hK : X.K = K) {e : Expr} {ta : TA} {p pos tpos : Pos} {elts : List Expr} {kk : Nat} (hg : Gl X "enumerate") (hm : X.mg "enumerate" = none) (ha : PA X [e] ta) (hs : starEach [e] X.env = [(false, eval e X.env)] := by rfl) :
    PI X (.Tuple elts kk tpos) (.Call (.Name "enumerate" p) [e] [] pos) (iEnum K ta) := by
  subst hK
  exact pi_enum hg hm ha hs
theorem pi_zipK {X : Cx} {K : PySem.W.Frag} (hK : X.K = K) {e e2 : Expr} {ta : TA} {p pos tpos : Pos} {elts : List Expr} {kk : Nat} (hg : Gl X "zip") (hm : X.mg "zip" = none) (ha : PA X [e, e2] ta)
    (hs : starEach [e, e2] X.env = (false, eval e X.env) :: starEach [e2] X.env := by rfl) (hpl : (backTo pos (starEach [e2] X.env)).any (·.1) = false := by rfl) :
    PI X (.Tuple elts kk tpos) (.Call (.Name "zip" p) [e, e2] [] pos) (iZip K ta) := by
  subst hK
  exact pi_zip hg hm ha hs hpl
def tJoin (K : PySem.W.Frag) (to te : TE) : TE := tM1 (fun x xs H Q => ∃ a p, ∃ ys : List Str, x = .str a ∧ xs = [.ref p] ∧ (SqL K H p (ys.map V.str) ∨ SqT K H p (ys.map V.str)) ∧
      (ys.map (·.length)).sum + ys.length * a.length ≤ 16777216 ∧ Q (.str (Txt.join a ys)) H) to te
theorem pe_joinK {X : Cx} {K : PySem.W.Frag} (hK : X.K = K) {o e : Expr} {to te : TE} {apos pos : Pos} (ho : PE X o to) (he : PE X e te) (hs : starEach [e] X.env = [(false, eval e X.env)] := by rfl)
    (hbase : attributeBase o "join" X.env (eval o X.env) = eval o X.env := by rfl) (hline : (apos.endLine == pos.line) = true := by rfl) :
    PE X (.Call (.Attribute o "join" apos) [e] [] pos) (tJoin K to te) := by
  subst hK
  exact pe_join ho he hs hbase hline
/-! ### heaps -/
theorem same_upd {H : Hp} {p : Addr} {o : HO} (h : H p = none) : Same H (upd H p o) := fun b x e => by
  rw [upd_ne (ne_of_none e h)]
  exact e
theorem Same.tup {K : PySem.W.Frag} {H H' : Hp} {a : Addr} {xs : List V} (e : Same H H') (h : SqT K H a xs) : SqT K H' a xs := by
  rcases h with (h | ⟨o, h⟩) | h
  · exact .inl (.inl (e _ _ h))
  · exact .inl (.inr ⟨o, e _ _ h⟩)
  · exact .inr h
theorem ixN_nat {n j : Nat} (hj : j < n) : ixN n (j : Int) = some j := by
  unfold ixN
  rw [if_pos (by omega), if_pos (by omega), Int.toNat_natCast]
theorem iteD {c A B : Prop} [Decidable c] (hc : c) (h : A) : if decide c = true then A else B := by
  rw [decide_eq_true hc]
  exact iteT h
theorem iteND {c A B : Prop} [Decidable c] (hc : ¬ c) (h : B) : if decide c = true then A else B := by
  rw [decide_eq_false hc]
  exact iteF h
theorem iteB {b : Bool} {A B : Prop} (hb : b = true) (h : A) : if b = true then A else B := by
  rw [hb]
  exact iteT h
theorem iteNB {b : Bool} {A B : Prop} (hb : b = false) (h : B) : if b = true then A else B := by
  rw [hb]
  exact iteF h
/-! ### walks: a text in a comprehension, enumerate -/
theorem lc_str {x : Str} {g : TG} {tt : TT} {te : TE} {vs : List Nat} {σ : L2.St} {H1 : Hp} {D : Addr} {Qd : Hp → Prop} (Pv : Nat → Hp → Prop) (h0 : Pv 0 (upd H1 D (.lst [])))
    (hs : ∀ i c H, x.cps[i]? = some c → Pv i H → g (.str ⟨#[c]⟩) (wipe σ vs) H fun σ2 H2 => wipe σ2 vs = wipe σ vs ∧ tt σ2 H2 fun b H3 =>
      if b = true then te σ2 H3 fun y H4 => ∃ acc, H4 D = some (.lst acc) ∧ acc.length < sizeLine ∧ Pv (i + 1) (upd H4 D (.lst (acc ++ [y]))) else Pv (i + 1) H3) (hd : ∀ H, Pv x.cps.size H → Qd H) :
    ∃ W : Nat → Nat → Hp → Prop, (∃ m, W 0 m (upd H1 D (.lst []))) ∧ ∀ i m H, W i m H →
      ((Its x).stop i H ∧ Qd H) ∨ ((Its x).go i H ∧ ∃ Nx : Hp → Prop, (∀ H', Nx H' → ∃ m', m' < m ∧ W (i + 1) m' H') ∧ ∀ v H', (Its x).yld i H v H' → g v (wipe σ vs) H' fun σ2 H2 => wipe σ2 vs = wipe σ vs ∧ tt σ2 H2 fun b H3 =>
        if b = true then te σ2 H3 fun y H4 => ∃ acc, H4 D = some (.lst acc) ∧ acc.length < sizeLine ∧ Nx (upd H4 D (.lst (acc ++ [y]))) else Nx H3) := by
  refine ⟨fun i m H => m = x.cps.size - i ∧ i ≤ x.cps.size ∧ Pv i H, ⟨_, rfl, Nat.zero_le _, h0⟩, ?_⟩
  rintro i m H ⟨rfl, hi, p⟩
  by_cases hlt : i < x.cps.size
  · refine .inr ⟨hlt, Pv (i + 1), fun H' p' => ⟨x.cps.size - (i + 1), by omega, rfl, hlt, p'⟩, fun v H' y => ?_⟩
    obtain ⟨e, c, hc, e2⟩ := y
    subst e e2
    exact hs i c _ hc p
  · have e : i = x.cps.size := by omega
    subst e
    exact .inl ⟨Nat.le_refl _, hd H p⟩
theorem for_enum {K : PySem.W.Frag} {a : Addr} {xs : List V} {g : TG} {tb : TS} {D : Ends} {σ : L2.St} {H : Hp} (Pv : Nat → L2.St → Hp → Prop) (h0 : Pv 0 σ H) (hl : ∀ i σ H, i ≤ xs.length → Pv i σ H → SqL K H a xs)
    (hs : ∀ i x σ H T, xs[i]? = some x → Pv i σ H → H T = none → g (.ref T) σ (upd H T (.tup [.int (i : Nat), x])) fun σ2 H2 => tb { D with nx := Pv (i + 1), ct := Pv (i + 1), bk := D.nx } σ2 H2) (hd : ∀ σ H, Pv xs.length σ H → D.nx σ H) :
    ∃ W : Nat → Nat → L2.St → Hp → Prop, (∃ m, W 0 m σ H) ∧ ∀ i m σ H, W i m σ H →
      ((Ite K a).stop i H ∧ D.nx σ H) ∨ ((Ite K a).go i H ∧ ∃ N : L2.St → Hp → Prop, (∀ σ' H', N σ' H' → ∃ m', m' < m ∧ W (i + 1) m' σ' H') ∧ ∀ x H', (Ite K a).yld i H x H' → g x σ H' fun σ2 H2 => tb { D with nx := N, ct := N, bk := D.nx } σ2 H2) := by
  refine ⟨fun i m σ H => m = xs.length - i ∧ i ≤ xs.length ∧ Pv i σ H, ⟨_, rfl, Nat.zero_le _, h0⟩, ?_⟩
  rintro i m σ H ⟨rfl, hi, p⟩
  have q := hl i σ H hi p
  by_cases hlt : i < xs.length
  · refine .inr ⟨⟨xs, xs[i], q, List.getElem?_eq_getElem hlt⟩, Pv (i + 1), fun σ' H' p' => ⟨xs.length - (i + 1), by omega, rfl, hlt, p'⟩, fun v H' y => ?_⟩
    obtain ⟨T, x, e1, hT, e2, hx⟩ := y
    subst e1 e2
    exact hs i x σ H T (hx xs q) p hT
  · have e : i = xs.length := by omega
    subst e
    exact .inl ⟨⟨xs, q, Nat.le_refl _⟩, hd σ H p⟩
/-! ### texts -/
def Low (z : Str) : Prop := ∀ c ∈ z.cps.toList, 97 ≤ c ∧ c ≤ 122
structure Nm (z : Str) : Prop where
  pos : 1 ≤ z.length
  few : z.length ≤ 8
  low : Low z
theorem len_l (z : Str) : z.length = z.cps.toList.length := by simp [Str.length]
theorem inV_str (z : Str) : ∀ ss : List Str, inV (.str z) (ss.map V.str) = decide (z ∈ ss)
  | [] => rfl
  | a :: r => by
    have ih := inV_str z r
    unfold inV at ih ⊢
    rw [List.map_cons, List.any_cons, ih]
    show ((a == z) || decide (z ∈ r)) = decide (z ∈ a :: r)
    by_cases h : a = z
    · subst h
      simp
    · have h2 : (a == z) = false := beq_eq_false_iff_ne.mpr h
      rw [h2, Bool.false_or]
      by_cases h3 : z ∈ r
      · rw [decide_eq_true h3, decide_eq_true (List.mem_cons_of_mem _ h3)]
      · rw [decide_eq_false h3, decide_eq_false (fun m => by rcases List.mem_cons.mp m with e | e; exact h e.symm; exact h3 e)]
theorem flat_strs : ∀ ss : List Str, (ss.map V.str).all flatV = true
  | [] => rfl
  | _ :: r => by
    rw [List.map_cons, List.all_cons, flat_strs r]
    rfl
theorem cut_take (xs : List V) (i : Nat) : cutV xs none (some (i : Int)) = xs.take i := by
  unfold cutV
  rw [HT.sIx_none, show HT.sIx xs.length xs.length (some (i : Int)) = min i xs.length from HT.sIx_nat _ _ i, List.drop_zero, Nat.sub_zero]
  by_cases h : i ≤ xs.length
  · rw [Nat.min_eq_left h]
  · rw [Nat.min_eq_right (by omega), List.take_of_length_le (Nat.le_refl _), List.take_of_length_le (by omega)]
theorem cut_drop (xs : List V) (i : Nat) : cutV xs (some (i : Int)) none = xs.drop i := by
  unfold cutV
  rw [HT.sIx_none, show HT.sIx xs.length 0 (some (i : Int)) = min i xs.length from HT.sIx_nat _ _ i]
  by_cases h : i ≤ xs.length
  · rw [Nat.min_eq_left h]
    exact List.take_of_length_le (by rw [List.length_drop]; exact Nat.le_refl _)
  · rw [Nat.min_eq_right (by omega), Nat.sub_self, List.take_zero, List.drop_eq_nil_of_le (by omega)]
def six : List Str := ["before", "upto", "same", "apart", "far", "next"]
def two : List Str := ["first", "last"]
/-- a tuple that is a rule of these tasks -/
def RuleOk (ts : List Str) (l : List Str) : Prop :=
  (∃ k x, k ∈ two ∧ x ∈ ts ∧ l = [k, x]) ∨ ∃ k x y, k ∈ six ∧ x ∈ ts ∧ y ∈ ts ∧ x ≠ y ∧ l = [k, x, y]
structure TasksOk (ts : List Str) : Prop where
  ne : ts ≠ []
  nm : ∀ z ∈ ts, Nm z
  nd : ts.Nodup
  few : ts.length ≤ 100
def topS (i : Nat) : Stmt := PySem.Challenge.pw_plandays_k08_beside_and_then.main.body.getD i (.Pass ⟨0, 0, 0, 0⟩)
abbrev s_PlanError_init : Stmt := inClass (topS 2) 0
theorem sc_PlanError_init : FnScope ["self", "value"] ["self", "value"] (defScope s_PlanError_init) := ⟨rfl, rfl, rfl, by decide +kernel, rfl, by decide +kernel, by decide +kernel⟩
abbrev s_is_name : Stmt := topS 14
theorem sc_is_name : FnScope ["text", "sign"] ["text"] (defScope s_is_name) := ⟨rfl, rfl, rfl, by decide +kernel, rfl, by decide +kernel, by decide +kernel⟩
abbrev s_check_tasks : Stmt := topS 15
theorem sc_check_tasks : FnScope ["tasks", "seen", "name"] ["tasks"] (defScope s_check_tasks) := ⟨rfl, rfl, rfl, by decide +kernel, rfl, by decide +kernel, by decide +kernel⟩
abbrev s_check_rule : Stmt := topS 16
theorem sc_check_rule : FnScope ["rule", "tasks", "name"] ["rule", "tasks"] (defScope s_check_rule) := ⟨rfl, rfl, rfl, by decide +kernel, rfl, by decide +kernel, by decide +kernel⟩
abbrev s_is_kept : Stmt := topS 17
theorem sc_is_kept : FnScope ["rule", "n", "days", "kind", "day", "later"] ["rule", "n", "days"] (defScope s_is_kept) := ⟨rfl, rfl, rfl, by decide +kernel, rfl, by decide +kernel, by decide +kernel⟩
abbrev s_Book_init : Stmt := inClass (topS 19) 0
theorem sc_Book_init : FnScope ["self", "tasks", "rules", "rule"] ["self", "tasks", "rules"] (defScope s_Book_init) := ⟨rfl, rfl, rfl, by decide +kernel, rfl, by decide +kernel, by decide +kernel⟩
abbrev s_Book_tasks : Stmt := inClass (topS 19) 1
theorem sc_Book_tasks : FnScope ["self"] ["self"] (defScope s_Book_tasks) := ⟨rfl, rfl, rfl, by decide +kernel, rfl, by decide +kernel, by decide +kernel⟩
abbrev s_Book_rules : Stmt := inClass (topS 19) 2
theorem sc_Book_rules : FnScope ["self"] ["self"] (defScope s_Book_rules) := ⟨rfl, rfl, rfl, by decide +kernel, rfl, by decide +kernel, by decide +kernel⟩
abbrev s_Book_keeps : Stmt := inClass (topS 19) 3
theorem sc_Book_keeps : FnScope ["self", "n", "plan", "days", "day", "rule"] ["self", "n", "plan"] (defScope s_Book_keeps) := ⟨rfl, rfl, rfl, by decide +kernel, rfl, by decide +kernel, by decide +kernel⟩
abbrev s_Book_with_rules : Stmt := inClass (topS 19) 4
theorem sc_Book_with_rules : FnScope ["self", "rules"] ["self", "rules"] (defScope s_Book_with_rules) := ⟨rfl, rfl, rfl, by decide +kernel, rfl, by decide +kernel, by decide +kernel⟩
abbrev s_Book_beside : Stmt := inClass (topS 19) 6
theorem sc_Book_beside : FnScope ["self", "other", "name"] ["self", "other"] (defScope s_Book_beside) := ⟨rfl, rfl, rfl, by decide +kernel, rfl, by decide +kernel, by decide +kernel⟩
abbrev s_Book_then : Stmt := inClass (topS 19) 7
theorem sc_Book_then : FnScope ["self", "other", "both", "one", "two"] ["self", "other"] (defScope s_Book_then) := ⟨rfl, rfl, rfl, by decide +kernel, rfl, by decide +kernel, by decide +kernel⟩
abbrev s_Book_and : Stmt := inClass (topS 19) 10
theorem sc_Book_and : FnScope ["self", "other", "more", "name"] ["self", "other"] (defScope s_Book_and) := ⟨rfl, rfl, rfl, by decide +kernel, rfl, by decide +kernel, by decide +kernel⟩
abbrev s_Book_len : Stmt := inClass (topS 19) 12
theorem sc_Book_len : FnScope ["self"] ["self"] (defScope s_Book_len) := ⟨rfl, rfl, rfl, by decide +kernel, rfl, by decide +kernel, by decide +kernel⟩
abbrev s_Book_eq : Stmt := inClass (topS 19) 13
theorem sc_Book_eq : FnScope ["self", "other"] ["self", "other"] (defScope s_Book_eq) := ⟨rfl, rfl, rfl, by decide +kernel, rfl, by decide +kernel, by decide +kernel⟩
abbrev s_law_deck : Stmt := topS 21
theorem sc_law_deck : FnScope ["script", "mixed", "cell", "great"] ["script"] (defScope s_law_deck) := ⟨rfl, rfl, rfl, by decide +kernel, rfl, by decide +kernel, by decide +kernel⟩
abbrev s_law_draw : Stmt := topS 22
theorem sc_law_draw : FnScope ["deck", "many", "one"] ["deck", "many"] (defScope s_law_draw) := ⟨rfl, rfl, rfl, by decide +kernel, rfl, by decide +kernel, by decide +kernel⟩
abbrev s_law_names : Stmt := topS 23
theorem sc_law_names : FnScope ["deck", "many", "letters", "words", "way", "stem", "found", "k", "at", "name", "m", "one"] ["deck", "many"] (defScope s_law_names) := ⟨rfl, rfl, rfl, by decide +kernel, rfl, by decide +kernel, by decide +kernel⟩
abbrev s_law_rule : Stmt := topS 24
theorem sc_law_rule : FnScope ["deck", "task_list", "kinds", "kind", "one"] ["deck", "task_list"] (defScope s_law_rule) := ⟨rfl, rfl, rfl, by decide +kernel, rfl, by decide +kernel, by decide +kernel⟩
abbrev s_law_order : Stmt := topS 25
theorem sc_law_order : FnScope ["deck", "many", "left", "k"] ["deck", "many"] (defScope s_law_order) := ⟨rfl, rfl, rfl, by decide +kernel, rfl, by decide +kernel, by decide +kernel⟩
abbrev s_law_shows : Stmt := topS 26
theorem sc_law_shows : FnScope ["deck", "book", "task_list", "rule_list", "at", "told", "many", "name", "rule"] ["deck", "book", "task_list", "rule_list"] (defScope s_law_shows) := ⟨rfl, rfl, rfl, by decide +kernel, rfl, by decide +kernel, by decide +kernel⟩
abbrev s_law_some : Stmt := topS 27
theorem sc_law_some : FnScope ["deck", "pool", "turned", "at"] ["deck", "pool"] (defScope s_law_some) := ⟨rfl, rfl, rfl, by decide +kernel, rfl, by decide +kernel, by decide +kernel⟩
abbrev s_law_great : Stmt := topS 28
theorem sc_law_great : FnScope ["deck", "many", "one", "k"] ["deck", "many"] (defScope s_law_great) := ⟨rfl, rfl, rfl, by decide +kernel, rfl, by decide +kernel, by decide +kernel⟩
abbrev s_law_days : Stmt := topS 29
theorem sc_law_days : FnScope ["deck", "last_day", "many", "way", "wide", "low", "days", "k"] ["deck", "last_day", "many"] (defScope s_law_days) := ⟨rfl, rfl, rfl, by decide +kernel, rfl, by decide +kernel, by decide +kernel⟩
abbrev s_law_number : Stmt := topS 30
theorem sc_law_number : FnScope ["deck", "way"] ["deck"] (defScope s_law_number) := ⟨rfl, rfl, rfl, by decide +kernel, rfl, by decide +kernel, by decide +kernel⟩
abbrev s_law_kept : Stmt := topS 31
theorem sc_law_kept : FnScope ["rule", "task_list", "last_day", "days", "kind", "one", "gap"] ["rule", "task_list", "last_day", "days"] (defScope s_law_kept) := ⟨rfl, rfl, rfl, by decide +kernel, rfl, by decide +kernel, by decide +kernel⟩
abbrev s_law_is_plan : Stmt := topS 32
theorem sc_law_is_plan : FnScope ["task_list", "rule_list", "last_day", "days", "day", "rule"] ["task_list", "rule_list", "last_day", "days"] (defScope s_law_is_plan) := ⟨rfl, rfl, rfl, by decide +kernel, rfl, by decide +kernel, by decide +kernel⟩
abbrev s_law_call : Stmt := topS 33
theorem sc_law_call : FnScope ["one", "two", "way"] ["one", "two", "way"] (defScope s_law_call) := ⟨rfl, rfl, rfl, by decide +kernel, rfl, by decide +kernel, by decide +kernel⟩
abbrev s_law_raised : Stmt := topS 34
theorem sc_law_raised : FnScope ["one", "two", "way", "worth", "e"] ["one", "two", "way"] (defScope s_law_raised) := ⟨rfl, rfl, rfl, by decide +kernel, rfl, by decide +kernel, by decide +kernel⟩
abbrev s_law_based : Stmt := topS 35
theorem sc_law_based : FnScope ["one", "two", "way", "based", "e"] ["one", "two", "way"] (defScope s_law_based) := ⟨rfl, rfl, rfl, by decide +kernel, rfl, by decide +kernel, by decide +kernel⟩
abbrev s_law_then_right : Stmt := topS 36
theorem sc_law_then_right : FnScope ["deck", "made", "first", "second", "last_day", "many", "days", "one", "two", "apart", "found"] ["deck", "made", "first", "second"] (defScope s_law_then_right) := ⟨rfl, rfl, rfl, by decide +kernel, rfl, by decide +kernel, by decide +kernel⟩
abbrev s_law_two : Stmt := topS 37
theorem sc_law_two : FnScope ["deck", "pool", "cut", "parts", "way", "most", "rows", "task_list", "rule_list", "m"] ["deck", "pool"] (defScope s_law_two) := ⟨rfl, rfl, rfl, by decide +kernel, rfl, by decide +kernel, by decide +kernel⟩
abbrev s_law : Stmt := topS 38
theorem sc_law : FnScope ["script", "deck", "pool", "k", "rows", "first", "second", "common", "way", "made", "task_list", "rule_list", "one", "m", "book", "at", "name", "two"] ["script"] (defScope s_law) := ⟨rfl, rfl, rfl, by decide +kernel, rfl, by decide +kernel, by decide +kernel⟩
/-- what the top has written, as the walks ask it -/
structure Tx (K : PySem.W.Frag) (w : World) (mg : Str → Option Value) where
  C_Book : Addr
  cl_Book : Cls K C_Book
  mg_Book : mg "Book" = some (.ref C_Book)
  n_Book_tasks : NoAttr K C_Book "_tasks"
  n_Book_rules : NoAttr K C_Book "_rules"
  d__TASKS_IN : Addr
  e__TASKS_IN : Array DictEntry
  i__TASKS_IN : Nat
  g__TASKS_IN : mg "_TASKS_IN" = some (.ref d__TASKS_IN)
  kd__TASKS_IN : KDict K w d__TASKS_IN e__TASKS_IN i__TASKS_IN
  k__TASKS_IN_before : ∃ t, PySem.W.nsIn K d__TASKS_IN "before" = some (some (.int 2 t))
  k__TASKS_IN_upto : ∃ t, PySem.W.nsIn K d__TASKS_IN "upto" = some (some (.int 2 t))
  k__TASKS_IN_same : ∃ t, PySem.W.nsIn K d__TASKS_IN "same" = some (some (.int 2 t))
  k__TASKS_IN_apart : ∃ t, PySem.W.nsIn K d__TASKS_IN "apart" = some (some (.int 2 t))
  k__TASKS_IN_far : ∃ t, PySem.W.nsIn K d__TASKS_IN "far" = some (some (.int 2 t))
  k__TASKS_IN_next : ∃ t, PySem.W.nsIn K d__TASKS_IN "next" = some (some (.int 2 t))
  k__TASKS_IN_first : ∃ t, PySem.W.nsIn K d__TASKS_IN "first" = some (some (.int 1 t))
  k__TASKS_IN_last : ∃ t, PySem.W.nsIn K d__TASKS_IN "last" = some (some (.int 1 t))
  t__LONGEST_NAME : Tok
  v__LONGEST_NAME : mg "_LONGEST_NAME" = some (.int 8 t__LONGEST_NAME)
  f_PlanError_init : Addr
  C_DoubleName : Addr
  mg_DoubleName : mg "DoubleName" = some (.ref C_DoubleName)
  ox_DoubleName : OexC K C_DoubleName
  ic_DoubleName : PySem.W.findIn K (.ref C_DoubleName) "__init__" = some (some (.ref f_PlanError_init))
  nv_DoubleName : PySem.W.findIn K (.ref C_DoubleName) "value" = some none
  xf_DoubleName : XfC K C_DoubleName
  ti : PySem.W.typeIn K (.ref f_PlanError_init) = some (.type "function")
  xc_DoubleName : ExcC K C_DoubleName
  C_PlanError : Addr
  mg_PlanError : mg "PlanError" = some (.ref C_PlanError)
  em_DoubleName_DoubleName : PySem.W.exmOne K (.ref C_DoubleName) (.ref C_DoubleName) = some true
  em_DoubleName_PlanError : PySem.W.exmOne K (.ref C_DoubleName) (.ref C_PlanError) = some true
  d_PlanError_init : FuncData
  F_PlanError_init : Fun K "__init__" "PlanError.__init__" s_PlanError_init f_PlanError_init d_PlanError_init
  b_PlanError_init : Binds K d_PlanError_init ["self", "value"] []
  f_is_name : Addr
  d_is_name : FuncData
  F_is_name : Fun K "_is_name" "_is_name" s_is_name f_is_name d_is_name
  b_is_name : Binds K d_is_name ["text"] []
  g_is_name : mg "_is_name" = some (.ref f_is_name)
  f_check_tasks : Addr
  d_check_tasks : FuncData
  F_check_tasks : Fun K "_check_tasks" "_check_tasks" s_check_tasks f_check_tasks d_check_tasks
  b_check_tasks : Binds K d_check_tasks ["tasks"] []
  g_check_tasks : mg "_check_tasks" = some (.ref f_check_tasks)
  f_check_rule : Addr
  d_check_rule : FuncData
  F_check_rule : Fun K "_check_rule" "_check_rule" s_check_rule f_check_rule d_check_rule
  b_check_rule : Binds K d_check_rule ["rule", "tasks"] []
  g_check_rule : mg "_check_rule" = some (.ref f_check_rule)
  f_is_kept : Addr
  d_is_kept : FuncData
  F_is_kept : Fun K "is_kept" "is_kept" s_is_kept f_is_kept d_is_kept
  b_is_kept : Binds K d_is_kept ["rule", "n", "days"] []
  g_is_kept : mg "is_kept" = some (.ref f_is_kept)
  f_Book_init : Addr
  d_Book_init : FuncData
  F_Book_init : Fun K "__init__" "Book.__init__" s_Book_init f_Book_init d_Book_init
  b_Book_init : Binds K d_Book_init ["self", "tasks", "rules"] []
  mk_Book : Mk K C_Book f_Book_init
  f_Book_tasks : Addr
  d_Book_tasks : FuncData
  F_Book_tasks : Fun K "tasks" "Book.tasks" s_Book_tasks f_Book_tasks d_Book_tasks
  b_Book_tasks : Binds K d_Book_tasks ["self"] []
  p_Book_tasks : Addr
  pr_Book_tasks : PropOf K C_Book "tasks" p_Book_tasks f_Book_tasks
  f_Book_rules : Addr
  d_Book_rules : FuncData
  F_Book_rules : Fun K "rules" "Book.rules" s_Book_rules f_Book_rules d_Book_rules
  b_Book_rules : Binds K d_Book_rules ["self"] []
  p_Book_rules : Addr
  pr_Book_rules : PropOf K C_Book "rules" p_Book_rules f_Book_rules
  f_Book_keeps : Addr
  d_Book_keeps : FuncData
  F_Book_keeps : Fun K "keeps" "Book.keeps" s_Book_keeps f_Book_keeps d_Book_keeps
  b_Book_keeps : Binds K d_Book_keeps ["self", "n", "plan"] []
  me_Book_keeps : Meth K C_Book "keeps" f_Book_keeps
  f_Book_with_rules : Addr
  d_Book_with_rules : FuncData
  F_Book_with_rules : Fun K "with_rules" "Book.with_rules" s_Book_with_rules f_Book_with_rules d_Book_with_rules
  b_Book_with_rules : Binds K d_Book_with_rules ["self", "rules"] []
  me_Book_with_rules : Meth K C_Book "with_rules" f_Book_with_rules
  f_Book_beside : Addr
  d_Book_beside : FuncData
  F_Book_beside : Fun K "beside" "Book.beside" s_Book_beside f_Book_beside d_Book_beside
  b_Book_beside : Binds K d_Book_beside ["self", "other"] []
  me_Book_beside : Meth K C_Book "beside" f_Book_beside
  f_Book_then : Addr
  d_Book_then : FuncData
  F_Book_then : Fun K "then" "Book.then" s_Book_then f_Book_then d_Book_then
  b_Book_then : Binds K d_Book_then ["self", "other"] []
  me_Book_then : Meth K C_Book "then" f_Book_then
  f_Book_and : Addr
  d_Book_and : FuncData
  F_Book_and : Fun K "__and__" "Book.__and__" s_Book_and f_Book_and d_Book_and
  b_Book_and : Binds K d_Book_and ["self", "other"] []
  me_Book_and : Meth K C_Book "__and__" f_Book_and
  f_Book_len : Addr
  d_Book_len : FuncData
  F_Book_len : Fun K "__len__" "Book.__len__" s_Book_len f_Book_len d_Book_len
  b_Book_len : Binds K d_Book_len ["self"] []
  me_Book_len : Meth K C_Book "__len__" f_Book_len
  f_Book_eq : Addr
  d_Book_eq : FuncData
  F_Book_eq : Fun K "__eq__" "Book.__eq__" s_Book_eq f_Book_eq d_Book_eq
  b_Book_eq : Binds K d_Book_eq ["self", "other"] []
  me_Book_eq : Meth K C_Book "__eq__" f_Book_eq
  f_law_deck : Addr
  d_law_deck : FuncData
  F_law_deck : Fun K "_law_deck" "_law_deck" s_law_deck f_law_deck d_law_deck
  b_law_deck : Binds K d_law_deck ["script"] []
  g_law_deck : mg "_law_deck" = some (.ref f_law_deck)
  f_law_draw : Addr
  d_law_draw : FuncData
  F_law_draw : Fun K "_law_draw" "_law_draw" s_law_draw f_law_draw d_law_draw
  b_law_draw : Binds K d_law_draw ["deck", "many"] []
  g_law_draw : mg "_law_draw" = some (.ref f_law_draw)
  f_law_names : Addr
  d_law_names : FuncData
  F_law_names : Fun K "_law_names" "_law_names" s_law_names f_law_names d_law_names
  b_law_names : Binds K d_law_names ["deck", "many"] []
  g_law_names : mg "_law_names" = some (.ref f_law_names)
  f_law_rule : Addr
  d_law_rule : FuncData
  F_law_rule : Fun K "_law_rule" "_law_rule" s_law_rule f_law_rule d_law_rule
  b_law_rule : Binds K d_law_rule ["deck", "task_list"] []
  g_law_rule : mg "_law_rule" = some (.ref f_law_rule)
  f_law_order : Addr
  d_law_order : FuncData
  F_law_order : Fun K "_law_order" "_law_order" s_law_order f_law_order d_law_order
  b_law_order : Binds K d_law_order ["deck", "many"] []
  g_law_order : mg "_law_order" = some (.ref f_law_order)
  f_law_shows : Addr
  d_law_shows : FuncData
  F_law_shows : Fun K "_law_shows" "_law_shows" s_law_shows f_law_shows d_law_shows
  b_law_shows : Binds K d_law_shows ["deck", "book", "task_list", "rule_list"] []
  g_law_shows : mg "_law_shows" = some (.ref f_law_shows)
  f_law_some : Addr
  d_law_some : FuncData
  F_law_some : Fun K "_law_some" "_law_some" s_law_some f_law_some d_law_some
  b_law_some : Binds K d_law_some ["deck", "pool"] []
  g_law_some : mg "_law_some" = some (.ref f_law_some)
  f_law_great : Addr
  d_law_great : FuncData
  F_law_great : Fun K "_law_great" "_law_great" s_law_great f_law_great d_law_great
  b_law_great : Binds K d_law_great ["deck", "many"] []
  g_law_great : mg "_law_great" = some (.ref f_law_great)
  f_law_days : Addr
  d_law_days : FuncData
  F_law_days : Fun K "_law_days" "_law_days" s_law_days f_law_days d_law_days
  b_law_days : Binds K d_law_days ["deck", "last_day", "many"] []
  g_law_days : mg "_law_days" = some (.ref f_law_days)
  f_law_number : Addr
  d_law_number : FuncData
  F_law_number : Fun K "_law_number" "_law_number" s_law_number f_law_number d_law_number
  b_law_number : Binds K d_law_number ["deck"] []
  g_law_number : mg "_law_number" = some (.ref f_law_number)
  f_law_kept : Addr
  d_law_kept : FuncData
  F_law_kept : Fun K "_law_kept" "_law_kept" s_law_kept f_law_kept d_law_kept
  b_law_kept : Binds K d_law_kept ["rule", "task_list", "last_day", "days"] []
  g_law_kept : mg "_law_kept" = some (.ref f_law_kept)
  f_law_is_plan : Addr
  d_law_is_plan : FuncData
  F_law_is_plan : Fun K "_law_is_plan" "_law_is_plan" s_law_is_plan f_law_is_plan d_law_is_plan
  b_law_is_plan : Binds K d_law_is_plan ["task_list", "rule_list", "last_day", "days"] []
  g_law_is_plan : mg "_law_is_plan" = some (.ref f_law_is_plan)
  f_law_call : Addr
  d_law_call : FuncData
  F_law_call : Fun K "_law_call" "_law_call" s_law_call f_law_call d_law_call
  b_law_call : Binds K d_law_call ["one", "two", "way"] []
  g_law_call : mg "_law_call" = some (.ref f_law_call)
  f_law_raised : Addr
  d_law_raised : FuncData
  F_law_raised : Fun K "_law_raised" "_law_raised" s_law_raised f_law_raised d_law_raised
  b_law_raised : Binds K d_law_raised ["one", "two", "way"] []
  g_law_raised : mg "_law_raised" = some (.ref f_law_raised)
  f_law_based : Addr
  d_law_based : FuncData
  F_law_based : Fun K "_law_based" "_law_based" s_law_based f_law_based d_law_based
  b_law_based : Binds K d_law_based ["one", "two", "way"] []
  g_law_based : mg "_law_based" = some (.ref f_law_based)
  f_law_then_right : Addr
  d_law_then_right : FuncData
  F_law_then_right : Fun K "_law_then_right" "_law_then_right" s_law_then_right f_law_then_right d_law_then_right
  b_law_then_right : Binds K d_law_then_right ["deck", "made", "first", "second"] []
  g_law_then_right : mg "_law_then_right" = some (.ref f_law_then_right)
  f_law_two : Addr
  d_law_two : FuncData
  F_law_two : Fun K "_law_two" "_law_two" s_law_two f_law_two d_law_two
  b_law_two : Binds K d_law_two ["deck", "pool"] []
  g_law_two : mg "_law_two" = some (.ref f_law_two)
  f_law : Addr
  d_law : FuncData
  F_law : Fun K "law" "law" s_law f_law d_law
  b_law : Binds K d_law ["script"] []
  g_law : mg "law" = some (.ref f_law)
  m_all : mg "all" = none
  m_bool : mg "bool" = none
  m_dict : mg "dict" = none
  m_int : mg "int" = none
  m_isinstance : mg "isinstance" = none
  m_len : mg "len" = none
  m_list : mg "list" = none
  m_max : mg "max" = none
  m_min : mg "min" = none
  m_range : mg "range" = none
  m_sorted : mg "sorted" = none
  m_str : mg "str" = none
  m_tuple : mg "tuple" = none
  m_zip : mg "zip" = none
  xa_Book : PySem.W.findIn K (.ref C_Book) "__class__" = some (some (.builtin "object.__class__"))
  xn_Book : PySem.W.specialIn K (.builtin "object.__class__") "__get__" = some (some (.builtin "getset_descriptor.__get__"))
  xt_Book : PySem.W.takesIn K (.builtin "object.__class__") = some true
  xm_Book : PySem.W.mroIn K C_Book (.type "object") = some true
  sf_Book : PySem.W.selfFirst K C_Book = true
section
variable {P : Program} {w : World} {K : PySem.W.Frag} {mg : Str → Option Value} {base : Heap}
/-! ### the program's defs -/
def sp_isname : Sp := fun vs H Q _ => ∃ z, vs = [.str z] ∧ Nm z ∧ ∀ H', Same H H' → Q (.bl true) H'
theorem le_a (c : Nat) (h : 97 ≤ c) : (!decide ((#[c] : Array Nat).toList < (Str.ofString "a").cps.toList)) = true := by
  have : (Str.ofString "a").cps.toList = [97] := by decide +kernel
  rw [this]
  have : ¬ [c] < [97] := by
    intro z
    rcases List.cons_lt_cons_iff.mp z with h1 | ⟨_, h2⟩
    · omega
    · exact absurd h2 (List.not_lt_nil _)
  simpa using this
theorem ge_z (c : Nat) (h : c ≤ 122) : (!decide ((Str.ofString "z").cps.toList < (#[c] : Array Nat).toList)) = true := by
  have : (Str.ofString "z").cps.toList = [122] := by decide +kernel
  rw [this]
  have : ¬ [122] < [c] := by
    intro z
    rcases List.cons_lt_cons_iff.mp z with h1 | ⟨_, h2⟩
    · omega
    · exact absurd h2 (List.not_lt_nil _)
  simpa using this
theorem all_true (n : Nat) : (List.replicate n true).all id = true := by
  induction n with
  | zero => rfl
  | succ n ih => rw [List.replicate_succ, List.all_cons, ih]; rfl
theorem ok_is_name (T : Tx K w mg) : FnOk P w K mg base CX0 1 T.f_is_name T.d_is_name ["text"] sp_isname := by
  refine T.F_is_name.ok sc_is_name (fun vs H Q E h => ?_) (fun cdv A outer s H vs Q E hr h => ?_)
  · obtain ⟨z, rfl, _⟩ := h
    rfl
  · obtain ⟨z, rfl, hn, k⟩ := h
    refine ⟨_,
    (pss_one
      (ps_ret (pe_and (pe_chain op_le op_le pe_int (pe_callB call_len_str (by rfl) T.m_len (by decide +kernel) (pa_cons (pv 0) pa_nil)) (pe_glob (v := .int 8) (by rfl) T.v__LONGEST_NAME ⟨_, rfl⟩)) (pe_one (pe_callB (cr_all rfl) (by rfl) T.m_all (by decide +kernel) (pa_cons (pe_lc (own := [("sign", 1)]) (g := gName 1) rfl sc_is_name.nd (pi_str (pv 0)) (blkOk_by (N := ["text", "sign"]) (sc := defScope s_is_name) (own := [("sign", 1)]) (by decide +kernel)) (fun _ _ _ _ _ => (pg_name (i := 1) sc_is_name.nd rfl (.inl rfl))) (fun _ _ _ _ _ => pts_nil) (fun _ _ _ _ _ => (pe_chain op_le_str op_le_str pe_str (pv 1) pe_str))) pa_nil)))))), ?_⟩
    have few := hn.few
    have pos := hn.pos
    have line : z.length ≤ sizeLine := Nat.le_of_lt (small1000 (by omega))
    refine ⟨_, rfl, _, rfl, line, _, _, rfl, rfl, _, rfl, iteD (by omega) ⟨_, _, rfl, rfl, _, rfl, iteD (by omega) ?_⟩⟩
    refine ⟨_, rfl, z, rfl, fun D hD => ?_⟩
    refine lc_str (fun i H' => i ≤ z.length ∧ H' D = some (.lst ((List.replicate i true).map V.bl)) ∧ Same H H') ?_ ?_ ?_
    · exact ⟨Nat.zero_le _, upd_same, same_upd hD⟩
    · rintro i c H1 hc ⟨hi, eD, sm⟩
      have hm : c ∈ z.cps.toList := by
        have : z.cps.toList[i]? = some c := by simpa using hc
        exact List.mem_of_getElem? this
      have hil : i < z.length := by
        have : i < z.cps.size := by
          rcases Nat.lt_or_ge i z.cps.size with h | h
          · exact h
          · rw [Array.getElem?_eq_none h] at hc; cases hc
        exact this
      obtain ⟨l1, l2⟩ := hn.low c hm
      refine ⟨rfl, _, rfl, _, _, rfl, rfl, _, rfl, iteB (le_a c l1) ⟨_, _, rfl, rfl, (List.replicate i true).map V.bl, eD, ?_, hil, ?_, fun b o e => ?_⟩⟩
      · rw [List.length_map, List.length_replicate]; exact small1000 (by omega)
      · rw [upd_same, ge_z c l2, List.replicate_succ', List.map_append]; rfl
      · rw [upd_ne (ne_of_none e hD)]; exact sm b o e
    · rintro H1 ⟨_, eD, sm⟩
      refine ⟨D, List.replicate z.cps.size true, rfl, .of eD, ?_⟩
      rw [all_true]
      exact k H1 sm
def sp_check_tasks (K : PySem.W.Frag) : Sp := fun vs H Q _ => ∃ t ts, vs = [.ref t] ∧ SqL K H t (ts.map V.str) ∧ TasksOk ts ∧ ∀ H', Same H H' → Q .non H'
theorem not_before {ts : List Str} {i : Nat} {z : Str} (nd : ts.Nodup) (h : ts[i]? = some z) : z ∉ ts.take i := fun m => by
  obtain ⟨j, hj, e⟩ := List.mem_iff_getElem.mp m
  rw [List.length_take] at hj
  rw [List.getElem_take] at e
  obtain ⟨hi, e2⟩ := List.getElem?_eq_some_iff.mp h
  have := (List.getElem_inj nd).mp (e.trans e2.symm)
  omega
theorem seen_new {H H1 : Hp} {d : Addr} {o : HO} (hd : H d = none) (sm : Same H H1) : Same H (upd H1 d o) := fun b x e => by
  rw [upd_ne (ne_of_none e hd)]
  exact sm b x e
theorem ok_check_tasks (T : Tx K w mg) : FnOk P w K mg base CX0 2 T.f_check_tasks T.d_check_tasks ["tasks"] (sp_check_tasks K) := by
  refine T.F_check_tasks.ok sc_check_tasks (fun vs H Q E h => ?_) (fun cdv A outer s H vs Q E hr h => ?_)
  · obtain ⟨t, ts, rfl, _⟩ := h
    rfl
  · obtain ⟨t, ts, rfl, hT, ok, k⟩ := h
    refine ⟨_,
    (pss_cons
      (ps_if (pt_not (pt_truth (pv 0) (by intro _; rfl)))
        (pss_one
          ps_never)
        pss_nil)
    (pss_cons
      (ps_set (i := 1) sc_check_tasks.nd rfl (.inl rfl) pe_dnewK)
    (pss_one
      (ps_for PassesOwn.never rfl (pi_list (pv 0)) (pg_name (i := 2) sc_check_tasks.nd rfl (.inl rfl))
        (pss_cons
          (ps_if (pt_not (pt_val (pe_call (ok_is_name T) hr (by rfl) T.g_is_name T.F_is_name.kp T.b_is_name .nil pass0 (pa_cons (pv 2) pa_nil))))
            (pss_one
              ps_never)
            pss_nil)
        (pss_cons
          (ps_if (pt_cmp (pc_din (hu_of hr) (pv 2) (pv 1)))
            (pss_one
              ps_never)
            pss_nil)
        (pss_one
          (ps_dput (hu_of hr) (pv 1) (pv 2) pe_bl (by rfl))))))))), ?_⟩
    refine ⟨_, rfl, true, .inl ⟨_, hT, ?_⟩, fun d hd => ?_⟩
    · cases ts with
      | nil => exact absurd rfl ok.ne
      | cons a r => rfl
    have sd : Same H (upd H d (.dK [])) := same_upd hd
    refine ⟨_, rfl, t, rfl, ⟨_, sd.seq hT⟩, for_list (xs := ts.map V.str) (fun i σ H' => Same H H' ∧ (∃ kvs : List (Key × V), H' d = some (.dK kvs) ∧ kvs.length ≤ i ∧ ∀ z : Str, (valV kvs (.inr z)).isSome = decide (z ∈ ts.take i)) ∧ ∃ x, σ = [some (.ref t), some (.ref d), x]) ?_ ?_ ?_ ?_⟩
    · exact ⟨sd, ⟨[], upd_same, Nat.le_refl _, fun z => by simp [valV]⟩, none, rfl⟩
    · rintro i σ H' _ ⟨sm, _⟩
      exact sm.seq hT
    · rintro i v σ H1 hi ⟨sm, ⟨kvs, hk, hl, hv⟩, x, rfl⟩
      rw [List.getElem?_map] at hi
      obtain ⟨z, hz, rfl⟩ := Option.map_eq_some_iff.mp hi
      have nz := ok.nm z (List.mem_of_getElem? hz)
      have hit : i < ts.length := (List.getElem?_eq_some_iff.mp hz).1
      have few := ok.few
      refine ⟨_, rfl, z, rfl, nz, fun H2 s2 => ⟨_, rfl, ?_⟩⟩
      have hk2 := s2 _ _ hk
      refine ⟨_, rfl, _, rfl, d, _, rfl, DGet.k (k := .inr z) hk2, _, rfl, iteNB ?_ ?_⟩
      · rw [hv]; exact decide_eq_false (not_before ok.nd hz)
      · refine ⟨_, rfl, _, rfl, d, _, rfl, DPut.k (k := .inr z) hk2 (small1000 (by omega)), seen_new hd (sm.trans s2), ⟨_, upd_same, ?_, fun y => ?_⟩, _, rfl⟩
        · exact Nat.le_trans (length_putK _ _ _) (by omega)
        · rw [valV_put, List.take_add_one, hz]
          by_cases e : y = z
          · subst e
            simp
          · have e2 : ¬ (Sum.inr y : Key) = .inr z := fun q => e (Sum.inr.inj q)
            rw [if_neg e2, hv y]
            simp [e]
    · rintro σ H' ⟨sm, _⟩
      exact k H' sm
def sp_check_rule (K : PySem.W.Frag) : Sp := fun vs H Q _ => ∃ a t l ts, vs = [.ref a, .ref t] ∧ SqT K H a (l.map V.str) ∧ SqL K H t (ts.map V.str) ∧ RuleOk ts l ∧ ∀ H', Same H H' → Q .non H'
theorem kind_in {T : Tx K w mg} {k : Str} {n : Int} (h : (k ∈ two ∧ n = 1) ∨ (k ∈ six ∧ n = 2)) : ∃ t, PySem.W.nsIn K T.d__TASKS_IN k = some (some (.int n t)) := by
  rcases h with ⟨h, rfl⟩ | ⟨h, rfl⟩
  · simp only [two, List.mem_cons, List.not_mem_nil, or_false] at h
    rcases h with rfl | rfl
    · exact T.k__TASKS_IN_first
    · exact T.k__TASKS_IN_last
  · simp only [six, List.mem_cons, List.not_mem_nil, or_false] at h
    rcases h with rfl | rfl | rfl | rfl | rfl | rfl
    · exact T.k__TASKS_IN_before
    · exact T.k__TASKS_IN_upto
    · exact T.k__TASKS_IN_same
    · exact T.k__TASKS_IN_apart
    · exact T.k__TASKS_IN_far
    · exact T.k__TASKS_IN_next
theorem ok_check_rule (T : Tx K w mg) : FnOk P w K mg base CX0 1 T.f_check_rule T.d_check_rule ["rule", "tasks"] (sp_check_rule K) := by
  refine T.F_check_rule.ok sc_check_rule (fun vs H Q E h => ?_) (fun cdv A outer s H vs Q E hr h => ?_)
  · obtain ⟨a, t, l, ts, rfl, _⟩ := h
    rfl
  · obtain ⟨a, t, l, ts, rfl, hA, hT, ok, k⟩ := h
    have hl : ∃ kd r, l = kd :: r ∧ ((kd ∈ two ∧ r.length = 1) ∨ (kd ∈ six ∧ r.length = 2)) ∧ (∀ z ∈ r, z ∈ ts) ∧ (∀ x y, r = [x, y] → x ≠ y) := by
      rcases ok with ⟨kd, x, h1, h2, rfl⟩ | ⟨kd, x, y, h1, h2, h3, h4, rfl⟩
      · exact ⟨kd, [x], rfl, .inl ⟨h1, rfl⟩, fun z hz => by rw [List.mem_singleton.mp hz]; exact h2, fun x y e => by simp at e⟩
      · exact ⟨kd, [x, y], rfl, .inr ⟨h1, rfl⟩, fun z hz => by
          rcases List.mem_cons.mp hz with e | e
          · rw [e]; exact h2
          · rw [List.mem_singleton.mp e]; exact h3, fun u v e => by
          injection e with e1 e2
          injection e2 with e2 _
          rw [← e1, ← e2]; exact h4⟩
    obtain ⟨kd, r, rfl, hk, hin, hne⟩ := hl
    obtain ⟨tk, hd⟩ := kind_in (T := T) (k := kd) (n := r.length) (by rcases hk with ⟨h, e⟩ | ⟨h, e⟩; exact .inl ⟨h, by omega⟩; exact .inr ⟨h, by omega⟩)
    refine ⟨_,
    (pss_cons
      (ps_if (PW.pt (pw_or (pt_cmpR (op_notIn_kd T.kd__TASKS_IN) (pe_ix ix_tup (pv 0) pe_int (fun _ _ => rfl)) (pe_glob (v := .ref T.d__TASKS_IN) (by rfl) T.g__TASKS_IN rfl) (by rfl)) (pw_or1 (pt_cmpR op_ne (pe_callB call_len_seq (by rfl) T.m_len (by decide +kernel) (pa_cons (pv 0) pa_nil)) (pe_op op_add pe_int (pe_ix (ix_kd T.kd__TASKS_IN) (pe_glob (v := .ref T.d__TASKS_IN) (by rfl) T.g__TASKS_IN rfl) (pe_ix ix_tup (pv 0) pe_int (fun _ _ => rfl)) (fun _ _ => rfl))) (nomark _)))))
        (pss_one
          ps_never)
        pss_nil)
    (pss_cons
      (ps_for PassesOwn.never rfl (pi_tup (pe_slice sl_tup (pv 0) (po_some pe_int) po_none)) (pg_name (i := 2) sc_check_rule.nd rfl (.inl rfl))
        (pss_one
          (ps_if (pt_cmpR op_notIn_seq (pv 2) (pv 1) (by rfl))
            (pss_one
              ps_never)
            pss_nil)))
    (pss_one
      (ps_if (PW.pt (pw_and (pt_cmpR op_eq (pe_callB call_len_seq (by rfl) T.m_len (by decide +kernel) (pa_cons (pv 0) pa_nil)) pe_int (nomark _)) (pw_and1 (pt_cmpR op_eq (pe_ix ix_tup (pv 0) pe_int (fun _ _ => rfl)) (pe_ix ix_tup (pv 0) pe_int (fun _ _ => rfl)) (nomark _)))))
        (pss_one
          ps_never)
        pss_nil)))), ?_⟩
    refine ⟨_, rfl, a, _, _, _, rfl, rfl, hA, atI_nat (j := 0) rfl, _, _, rfl, rfl, hd, _, rfl, ?_⟩
    refine ⟨_, rfl, a, _, rfl, .inr hA, _, rfl, a, _, _, _, rfl, rfl, hA, atI_nat (j := 0) rfl, _, _, .int (r.length : Int), rfl, rfl, hd, ⟨_, rfl⟩, _, _, rfl, rfl, rfl, _, rfl, iteNS ?_ ?_⟩
    · show V.int (((kd :: r).map V.str).length : Int) = V.int (1 + (r.length : Int))
      rw [List.length_map, List.length_cons]
      congr 1
      omega
    refine ⟨_, rfl, _, rfl, a, _, rfl, hA, ?_, fun p hp => ⟨_, rfl, ⟨_, .of upd_same⟩, ?_⟩⟩
    · rintro ⟨h1, _⟩
      rw [show HT.sIx ((kd :: r).map V.str).length 0 (some 1) = min 1 ((kd :: r).map V.str).length from HT.sIx_nat _ _ 1, List.length_map, List.length_cons] at h1
      omega
    have ec : cutV ((kd :: r).map V.str) (some 1) none = r.map V.str := cut_drop _ 1
    rw [ec] at *
    refine for_tup (xs := r.map V.str) (fun i σ H' => Same (upd H p (.tup (r.map V.str))) H' ∧ ∃ x2, σ = [some (.ref a), some (.ref t), x2]) ?_ ?_ ?_ ?_
    · exact ⟨Same.refl _, none, rfl⟩
    · rintro i σ H' _ ⟨sm, _⟩
      exact .of (sm _ _ upd_same)
    · rintro i x σ H1 hi ⟨sm, x2, rfl⟩
      rw [List.getElem?_map] at hi
      obtain ⟨z, hz, rfl⟩ := Option.map_eq_some_iff.mp hi
      have s1 := (same_upd (o := .tup (r.map V.str)) hp).trans sm
      refine ⟨_, rfl, _, rfl, t, _, rfl, .inl (s1.seq hT), rfl, flat_strs _, _, rfl, iteNB ?_ ⟨sm, _, rfl⟩⟩
      show (!inV (V.str z) _) = false
      rw [inV_str, decide_eq_true (hin z (List.mem_of_getElem? hz))]
      rfl
    · rintro σ H1 ⟨sm, x2, rfl⟩
      have s1 := (same_upd (o := .tup (r.map V.str)) hp).trans sm
      have hA1 := Same.tup s1 hA
      refine ⟨_, rfl, a, _, rfl, .inr hA1, rfl, _, rfl, ?_⟩
      rcases hk with ⟨_, e⟩ | ⟨_, e⟩
      · refine iteND ?_ (k H1 s1)
        intro z
        have := V.int.inj z
        rw [List.length_map, List.length_cons] at this
        omega
      · match r, e with
        | [x, y], _ =>
          refine iteD rfl ⟨_, rfl, a, _, _, _, rfl, rfl, hA1, atI_nat (j := 1) rfl, _, rfl, a, _, _, _, rfl, rfl, hA1, atI_nat (j := 2) rfl, rfl, _, rfl, iteND ?_ (k H1 s1)⟩
          intro z
          exact hne x y rfl (V.str.inj z)
/-! ### a book in the heap -/
theorem kc : ¬ (("_tasks" : Str) = "_rules") := by decide +kernel
def fl (t r : Addr) : List (Str × V) := putF "_rules" (.ref r) (putF "_tasks" (.ref t) [])
theorem fl_t (t r : Addr) : (fl t r).lookup ("_tasks" : Str) = some (.ref t) := by
  unfold fl
  rw [lookup_putF, if_neg kc, lookup_putF, if_pos rfl]
theorem fl_r (t r : Addr) : (fl t r).lookup ("_rules" : Str) = some (.ref r) := by
  unfold fl
  rw [lookup_putF, if_pos rfl]
def sp_init (K : PySem.W.Frag) (C : Addr) : Sp := fun vs H Q _ => ∃ (x dx t r : Addr) (ts : List Str) (as : List Addr), vs = [.ref x, .ref t, .ref r] ∧ H x = some (.ins C dx []) ∧ SqL K H t (ts.map V.str) ∧ SqL K H r (as.map V.ref) ∧ TasksOk ts ∧
  (∀ a ∈ as, ∃ l : List Str, SqT K H a (l.map V.str) ∧ RuleOk ts l) ∧ ∀ p q H', H p = none → H q = none → H' x = some (.ins C dx (fl p q)) → H' p = some (.lst (ts.map V.str)) → H' q = some (.lst (as.map V.ref)) →
    (∀ b o, H b = some o → b ≠ x → H' b = some o) → Q .non H'
theorem ok_Book_init (T : Tx K w mg) : FnOk P w K mg base CX0 3 T.f_Book_init T.d_Book_init ["self", "tasks", "rules"] (sp_init K T.C_Book) := by
  refine T.F_Book_init.ok sc_Book_init (fun vs H Q E h => ?_) (fun cdv A outer s H vs Q E hr h => ?_)
  · obtain ⟨x, dx, t, r, ts, as, rfl, _⟩ := h
    rfl
  · obtain ⟨x, dx, t, r, ts, as, rfl, hx, hT, hR, ok, rok, k⟩ := h
    refine ⟨_,
    (pss_cons
      (ps_expr (pe_call (ok_check_tasks T) hr (by rfl) T.g_check_tasks T.F_check_tasks.kp T.b_check_tasks .nil pass0 (pa_cons (pv 1) pa_nil)))
    (pss_cons
      (ps_for PassesOwn.never rfl (pi_list (pv 2)) (pg_name (i := 3) sc_Book_init.nd rfl (.inl rfl))
        (pss_one
          (ps_expr (pe_call (ok_check_rule T) (hr.mono (by decide)) (by rfl) T.g_check_rule T.F_check_rule.kp T.b_check_rule .nil pass0 (pa_cons (pv 3) (pa_cons (pv 1) pa_nil))))))
    (pss_cons
      (ps_fld (pv 0) (pe_callTy call_list_of (by rfl) T.m_list (by decide +kernel) (pa_cons (pv 1) pa_nil)) rfl)
    (pss_one
      (ps_fld (pv 0) (pe_callTy call_list_of (by rfl) T.m_list (by decide +kernel) (pa_cons (pv 2) pa_nil)) rfl))))), ?_⟩
    refine ⟨_, rfl, t, ts, rfl, hT, ok, fun H1 s1 => ?_⟩
    refine ⟨_, rfl, r, rfl, ⟨_, s1.seq hR⟩, for_list (xs := as.map V.ref) (fun i σ H' => Same H H' ∧ ∃ x3, σ = [some (.ref x), some (.ref t), some (.ref r), x3]) ⟨s1, none, rfl⟩ (fun i σ H' _ h => h.1.seq hR) ?_ ?_⟩
    · rintro i v σ H2 hi ⟨sm, x3, rfl⟩
      rw [List.getElem?_map] at hi
      obtain ⟨a, ha, rfl⟩ := Option.map_eq_some_iff.mp hi
      obtain ⟨l, hl, lok⟩ := rok a (List.mem_of_getElem? ha)
      exact ⟨_, rfl, _, rfl, a, t, l, ts, rfl, Same.tup sm hl, sm.seq hT, lok, fun H3 s3 => ⟨sm.trans s3, _, rfl⟩⟩
    · rintro σ H2 ⟨sm, x3, rfl⟩
      refine ⟨_, rfl, t, _, rfl, .inl (sm.seq hT), fun p hp => ?_⟩
      have hx2 := sm _ _ hx
      have xp : x ≠ p := ne_of_none hx2 hp
      have s2 : Same H (upd H2 p (.lst (ts.map V.str))) := sm.trans (same_upd hp)
      have hx3 := s2 _ _ hx
      refine ⟨_, rfl, x, T.C_Book, dx, [], rfl, hx3, T.cl_Book, T.n_Book_tasks, (by show 0 < 1000; decide), ?_⟩
      have hR2 : SqL K (upd (upd H2 p (.lst (ts.map V.str))) x (.ins T.C_Book dx (putF "_tasks" (.ref p) []))) r (as.map V.ref) := by
        rcases s2.seq hR with (h | ⟨o, h⟩) | h
        · exact .inl (.inl (by rw [upd_ne (ne_of h hx3 (by intro z; cases z))]; exact h))
        · exact .inl (.inr ⟨o, by rw [upd_ne (ne_of h hx3 (by intro z; cases z))]; exact h⟩)
        · exact .inr h
      refine ⟨_, rfl, r, _, rfl, .inl hR2, fun q hq => ?_⟩
      have qx : x ≠ q := ne_of_none upd_same hq
      have qp : p ≠ q := ne_of_none (by rw [upd_ne xp.symm]; exact upd_same) hq
      refine ⟨_, rfl, x, T.C_Book, dx, _, rfl, (by rw [upd_ne qx]; exact upd_same), T.cl_Book, T.n_Book_rules, (by show 1 < 1000; decide), ?_⟩
      have hqH : H q = none := by
        rw [upd_ne qx.symm, upd_ne qp.symm] at hq
        exact sm.free hq
      refine k p q _ (sm.free hp) hqH upd_same ?_ ?_ fun b o e nb => ?_
      · rw [upd_ne xp.symm, upd_ne qp, upd_ne xp.symm, upd_same]
      · rw [upd_ne qx.symm, upd_same]
      · rw [upd_ne nb, upd_ne (ne_of_none e hqH), upd_ne nb]
        exact s2 b o e
/-- Book(rules = .., tasks = ..) -/
theorem kb_Book_init (T : Tx K w mg) : KBn K T.d_Book_init ["self", "tasks", "rules"] 1 ["rules", "tasks"] (fun us ws => us ++ ws.reverse) (fun vs zs => vs ++ zs.reverse) := by
  obtain ⟨oc, od, kV, doc, pm, an, cdv, ct, osl, e, _, _⟩ := T.F_Book_init.ex
  refine ⟨fun s us ws _ h1 h2 => ?_, fun r1 r2 => r1.append r2.reverse⟩
  rw [e]
  match us, ws, h1, h2 with
  | [_], [_, _], _, _ => exact BindsTo.of_eq rfl
def sp_get (K : PySem.W.Frag) (C : Addr) (f : Str) : Sp := fun vs H Q _ => ∃ b dx t r a xs, vs = [.ref b] ∧ H b = some (.ins C dx (fl t r)) ∧ (fl t r).lookup f = some (.ref a) ∧ SqL K H a xs ∧ ∀ p, H p = none → Q (.ref p) (upd H p (.lst xs))
theorem ok_Book_tasks (T : Tx K w mg) : FnOk P w K mg base CX0 1 T.f_Book_tasks T.d_Book_tasks ["self"] (sp_get K T.C_Book "_tasks") := by
  refine T.F_Book_tasks.ok sc_Book_tasks (fun vs H Q E h => ?_) (fun cdv A outer s H vs Q E hr h => ?_)
  · obtain ⟨b, dx, t, r, a, xs, rfl, _⟩ := h
    rfl
  · obtain ⟨b, dx, t, r, a, xs, rfl, hb, hf, ha, k⟩ := h
    refine ⟨_,
    (pss_one
      (ps_ret (pe_callTy call_list_of (by rfl) T.m_list (by decide +kernel) (pa_cons (pe_fld (pv 0) rfl) pa_nil)))), ?_⟩
    exact ⟨_, rfl, b, _, dx, _, _, rfl, hb, T.cl_Book, T.n_Book_tasks, hf, a, _, rfl, .inl ha, k⟩
theorem ok_Book_rules (T : Tx K w mg) : FnOk P w K mg base CX0 1 T.f_Book_rules T.d_Book_rules ["self"] (sp_get K T.C_Book "_rules") := by
  refine T.F_Book_rules.ok sc_Book_rules (fun vs H Q E h => ?_) (fun cdv A outer s H vs Q E hr h => ?_)
  · obtain ⟨b, dx, t, r, a, xs, rfl, _⟩ := h
    rfl
  · obtain ⟨b, dx, t, r, a, xs, rfl, hb, hf, ha, k⟩ := h
    refine ⟨_,
    (pss_one
      (ps_ret (pe_callTy call_list_of (by rfl) T.m_list (by decide +kernel) (pa_cons (pe_fld (pv 0) rfl) pa_nil)))), ?_⟩
    exact ⟨_, rfl, b, _, dx, _, _, rfl, hb, T.cl_Book, T.n_Book_rules, hf, a, _, rfl, .inl ha, k⟩
def sp_len (K : PySem.W.Frag) (C : Addr) : Sp := fun vs H Q _ => ∃ b dx t r xs, vs = [.ref b] ∧ H b = some (.ins C dx (fl t r)) ∧ SqL K H r xs ∧ Q (.int xs.length) H
theorem ok_Book_len (T : Tx K w mg) : FnOk P w K mg base CX0 1 T.f_Book_len T.d_Book_len ["self"] (sp_len K T.C_Book) := by
  refine T.F_Book_len.ok sc_Book_len (fun vs H Q E h => ?_) (fun cdv A outer s H vs Q E hr h => ?_)
  · obtain ⟨b, dx, t, r, xs, rfl, _⟩ := h
    rfl
  · obtain ⟨b, dx, t, r, xs, rfl, hb, hr', k⟩ := h
    refine ⟨_,
    (pss_one
      (ps_ret (pe_callB call_len_seq (by rfl) T.m_len (by decide +kernel) (pa_cons (pe_fld (pv 0) rfl) pa_nil)))), ?_⟩
    exact ⟨_, rfl, b, _, dx, _, _, rfl, hb, T.cl_Book, T.n_Book_rules, fl_r t r, r, _, rfl, .inl hr', k⟩
/-! ### the law's deck -/
def Deck (H : Hp) (d g : Addr) : Prop := ∃ (gs : List Int) (a m : Int), H d = some (.lst [.ref g, .int a, .int m]) ∧ H g = some (.lst (gs.map V.int)) ∧ gs.length ≤ 63 ∧ (∀ x ∈ gs, 0 ≤ x) ∧ 0 ≤ a ∧ 0 ≤ m ∧ m < 2147483648
theorem Deck.ne {H : Hp} {d g : Addr} (h : Deck H d g) : d ≠ g := by
  obtain ⟨gs, a, m, h1, h2, _⟩ := h
  intro e
  subst e
  rw [h1] at h2
  cases gs with
  | nil => cases h2
  | cons x r => injection h2 with h2; injection h2 with h2; injection h2 with h2; cases h2
/-- all but the deck is as it was -/
def Kd (d g : Addr) (H H' : Hp) : Prop := ∀ b o, H b = some o → b ≠ d → b ≠ g → H' b = some o
theorem Kd.refl {d g : Addr} (H : Hp) : Kd d g H H := fun _ _ h _ _ => h
theorem Kd.trans {d g : Addr} {H H1 H2 : Hp} (a : Kd d g H H1) (b : Kd d g H1 H2) : Kd d g H H2 := fun x o h n1 n2 => b x o (a x o h n1 n2) n1 n2
theorem Same.kd {d g : Addr} {H H' : Hp} (s : Same H H') : Kd d g H H' := fun b o h _ _ => s b o h
def sp_deck (K : PySem.W.Frag) : Sp := fun vs H Q _ => ∃ (a : Addr) (ns : List Int), vs = [.ref a] ∧ SqL K H a (ns.map V.int) ∧ ns.length ≤ 63 ∧ ∀ d g H', Same H H' → Deck H' d g → Q (.ref d) H'
theorem ok_law_deck (T : Tx K w mg) : FnOk P w K mg base CX0 1 T.f_law_deck T.d_law_deck ["script"] (sp_deck K) := by
  refine T.F_law_deck.ok sc_law_deck (fun vs H Q E h => ?_) (fun cdv A outer s H vs Q E hr h => ?_)
  · obtain ⟨a, ns, rfl, _⟩ := h
    rfl
  · obtain ⟨a, ns, rfl, hS, hl, k⟩ := h
    refine ⟨_,
    (pss_cons
      (ps_set (i := 1) sc_law_deck.nd rfl (.inl rfl) (pe_op op_add pe_int (pe_op op_mod (pe_callB call_len_seq (by rfl) T.m_len (by decide +kernel) (pa_cons (pv 0) pa_nil)) pe_int)))
    (pss_cons
      (ps_for PassesOwn.never rfl (pi_list (pv 0)) (pg_name (i := 2) sc_law_deck.nd rfl (.inl rfl))
        (pss_one
          (ps_set (i := 1) sc_law_deck.nd rfl (.inl rfl) (pe_op op_mod (pe_op op_add (pe_op op_add (pe_op op_mul (pv 1) pe_int) (pe_op op_mod (pe_callTy call_int1 (by rfl) T.m_int (by decide +kernel) (pa_cons (pv 2) pa_nil)) pe_int)) pe_int) pe_int))))
    (pss_cons
      (ps_setLc (i := 3) (own := [("cell", 2)]) (g := gName 2) rfl sc_law_deck.nd rfl rfl (sw_true rfl rfl rfl (by decide +kernel)) (pi_list (pv 0)) (blkOk_by (N := ["script", "mixed", "cell", "great"]) (sc := defScope s_law_deck) (own := [("cell", 2)]) (by decide +kernel)) (fun _ _ _ _ _ => (pg_name (i := 2) sc_law_deck.nd rfl (.inl rfl))) (fun _ _ _ _ _ => (pts_one (pt_cmpR op_ge (pv 2) (pe_op op_pow pe_int pe_int) (nomark _)))) (fun _ _ _ _ _ => (pe_op op_sub (pe_callTy call_int1 (by rfl) T.m_int (by decide +kernel) (pa_cons (pv 2) pa_nil)) (pe_op op_pow pe_int pe_int))))
    (pss_one
      (ps_ret (pe_lst (pa_cons (pe_revL (pv 3)) (pa_cons pe_int (pa_cons (pe_op op_add (pe_op op_mod (pv 1) pe_int) pe_int) pa_nil))))))))), ?_⟩
    refine ⟨_, rfl, a, _, rfl, .inl hS, _, _, rfl, rfl, (by show (0 : Int) < 1009; decide), _, _, rfl, rfl, ?_⟩
    have m0 : 0 ≤ 1 + ((ns.map V.int).length : Int) % 1009 := by omega
    have m1 : 1 + ((ns.map V.int).length : Int) % 1009 < 2147483648 := by omega
    refine ⟨_, rfl, a, rfl, ⟨_, hS⟩, for_list (xs := ns.map V.int) (fun i σ H' => H' = H ∧ ∃ m x2, 0 ≤ m ∧ m < 2147483648 ∧ σ = [some (.ref a), some (.int m), x2, none]) ⟨rfl, _, none, m0, m1, rfl⟩ (fun i σ H' _ h => by rw [h.1]; exact hS) ?_ ?_⟩
    · rintro i v σ H1 hi ⟨rfl, m, x2, m0, m1, rfl⟩
      rw [List.getElem?_map] at hi
      obtain ⟨c, _, rfl⟩ := Option.map_eq_some_iff.mp hi
      refine ⟨_, rfl, _, _, rfl, rfl, .inl ⟨by omega, by omega⟩, _, rfl, .inl ⟨_, rfl, _, _, rfl, rfl, (by show (0 : Int) < 2147483563; decide), _, _, rfl, rfl, _, _, rfl, rfl, _, _, rfl, rfl, (by show (0 : Int) < 2147483399; decide), rfl, _, _, Int.emod_nonneg _ (by decide), Int.lt_trans (Int.emod_lt_of_pos _ (by decide)) (by decide), rfl⟩⟩
    · rintro σ H1 ⟨rfl, m, x2, m0, m1, rfl⟩
      refine ⟨_, rfl, a, rfl, ⟨_, hS⟩, fun D hD => ?_⟩
      refine lc_list (xs := ns.map V.int) (fun i H' => ∃ gs : List Int, gs.length ≤ i ∧ (∀ x ∈ gs, 0 ≤ x) ∧ H' D = some (.lst (gs.map V.int)) ∧ Same H1 H') ?_ ?_ ?_ ?_
      · exact ⟨[], Nat.le_refl _, (fun _ h => absurd h List.not_mem_nil), upd_same, same_upd hD⟩
      · rintro i H' _ ⟨gs, _, _, _, sm⟩
        exact sm.seq hS
      · rintro i v H' hi ⟨gs, gl, g0, eD, sm⟩
        have hil := (List.getElem?_eq_some_iff.mp hi).1
        rw [List.length_map] at hil
        rw [List.getElem?_map] at hi
        obtain ⟨c, _, rfl⟩ := Option.map_eq_some_iff.mp hi
        refine ⟨rfl, _, rfl, _, _, rfl, rfl, ⟨by decide, by decide, by decide⟩, _, _, rfl, rfl, _, rfl, ite2 (fun h => ?_) (fun _ => ⟨gs, by omega, g0, eD, sm⟩)⟩
        have h1 : (10 : Int) ^ (18 : Int).toNat ≤ c := of_decide_eq_true h
        refine ⟨_, rfl, .inl ⟨_, rfl, _, _, rfl, rfl, ⟨by decide, by decide, by decide⟩, _, _, rfl, rfl, gs.map V.int, eD, ?_, gs ++ [c - (10 : Int) ^ (18 : Int).toNat], ?_, ?_, ?_, fun b o e => ?_⟩⟩
        · rw [List.length_map]; exact small1000 (by omega)
        · rw [List.length_append]; exact Nat.succ_le_succ gl
        · intro x hx
          rcases List.mem_append.mp hx with h | h
          · exact g0 x h
          · have := List.mem_singleton.mp h
            omega
        · rw [upd_same, List.map_append]; rfl
        · rw [upd_ne (ne_of_none e hD)]; exact sm b o e
      · rintro H2 ⟨gs, gl, g0, eD, sm⟩
        rw [List.length_map] at gl
        refine ⟨_, rfl, D, _, rfl, .of eD, fun g hg => ⟨_, rfl, _, _, rfl, rfl, (by show (0 : Int) < 2147483398; decide), _, _, rfl, rfl, (by show 3 ≤ sizeLine; decide), fun d hd => ?_⟩⟩
        refine k d g _ ((sm.trans (same_upd hg)).trans (same_upd hd)) ⟨gs.reverse, 0, m % 2147483398 + 1, upd_same, ?_, by rw [List.length_reverse]; omega, fun x hx => g0 x (List.mem_reverse.mp hx), by decide, by omega, by omega⟩
        rw [upd_ne (ne_of_none upd_same hd), upd_same, List.map_reverse]
def sp_draw : Sp := fun vs H Q _ => ∃ (d g : Addr) (n : Int), vs = [.ref d, .int n] ∧ Deck H d g ∧ 0 < n ∧ n.natAbs.log2 < 9000 ∧ ∀ r H', 0 ≤ r → r < n → Deck H' d g → Kd d g H H' → Q (.int r) H'
theorem small_log {m : Int} (h : m.natAbs < 1024) : m.natAbs.log2 < 9000 := by
  have h1 : m.natAbs.log2 < 10 := PySem.Flt.log2_lt_of (by decide) h
  omega
theorem ok_law_draw (T : Tx K w mg) : FnOk P w K mg base CX0 1 T.f_law_draw T.d_law_draw ["deck", "many"] sp_draw := by
  refine T.F_law_draw.ok sc_law_draw (fun vs H Q E h => ?_) (fun cdv A outer s H vs Q E hr h => ?_)
  · obtain ⟨d, g, n, rfl, _⟩ := h
    rfl
  · obtain ⟨d, g, n, rfl, hD, hn, hl, k⟩ := h
    refine ⟨_,
    (pss_cons
      (ps_while PassesOwn.never (PW.pt (pw_and (pt_cmpR op_lt (pe_ix ix_list (pv 0) pe_int (fun _ _ => rfl)) pe_int (nomark _)) (pw_and1 (pt_cmpR op_gt (pe_callB call_len_seq (by rfl) T.m_len (by decide +kernel) (pa_cons (pe_ix ix_list (pv 0) pe_int (fun _ _ => rfl)) pa_nil)) pe_int (nomark _)))))
        (pss_one
          (ps_asg (pe_bm0 PySem.F.plainAttrs_list PySem.F.slot_list_pop PySem.F.type_list_pop mt_pop (pe_ix ix_list (pv 0) pe_int (fun _ _ => rfl))) (pg_sub (pv 0) pe_int set_list))))
    (pss_cons
      (ps_if (pt_cmpR op_gt (pe_ix ix_list (pv 0) pe_int (fun _ _ => rfl)) pe_int (nomark _))
        (pss_cons
          (ps_set (i := 2) sc_law_draw.nd rfl (.inl rfl) (pe_op op_mod (pe_callTy call_int1 (by rfl) T.m_int (by decide +kernel) (pa_cons (pe_ix ix_list (pv 0) pe_int (fun _ _ => rfl)) pa_nil)) (pv 1)))
        (pss_cons
          (ps_asg (pe_op op_fdivW (pe_ix ix_list (pv 0) pe_int (fun _ _ => rfl)) (pv 1)) (pg_sub (pv 0) pe_int set_list))
        (pss_one
          (ps_ret (pv 2)))))
        pss_nil)
    (pss_cons
      (ps_asg (pe_op op_mod (pe_op op_mul (pe_ix ix_list (pv 0) pe_int (fun _ _ => rfl)) pe_int) pe_int) (pg_sub (pv 0) pe_int set_list))
    (pss_one
      (ps_ret (pe_op op_mod (pe_op op_fdiv (pe_op op_add (pe_op op_mod (pe_op op_mul (pe_ix ix_list (pv 0) pe_int (fun _ _ => rfl)) (pe_ix ix_list (pv 0) pe_int (fun _ _ => rfl))) pe_int) (pe_op op_fdiv (pe_ix ix_list (pv 0) pe_int (fun _ _ => rfl)) pe_int)) pe_int) (pv 1))))))), ?_⟩
    have dg := hD.ne
    obtain ⟨gs, a, m, hd, hg, gl, g0, a0, m0, m1⟩ := hD
    refine ⟨fun t σ H' => ∃ (gs : List Int) (a : Int), gs.length = t ∧ σ = [some (.ref d), some (.int n), none] ∧ H' d = some (.lst [.ref g, .int a, .int m]) ∧ H' g = some (.lst (gs.map V.int)) ∧ gs.length ≤ 63 ∧ (∀ x ∈ gs, 0 ≤ x) ∧ 0 ≤ a ∧ Kd d g H H',
      ⟨_, gs, a, rfl, rfl, hd, hg, gl, g0, a0, Kd.refl H⟩, ?_⟩
    clear hd hg gl g0 a0 gs a
    rintro t σ H1 ⟨gs, a, tl, rfl, hd, hg, gl, g0, a0, kd⟩
    refine ⟨_, rfl, d, _, _, _, rfl, rfl, .of hd, atI_nat (j := 1) rfl, _, _, rfl, rfl, _, rfl, ite2 (fun c1 => ?_) (fun c1 => ?_)⟩
    · refine ⟨_, rfl, d, _, _, _, rfl, rfl, .of hd, atI_nat (j := 0) rfl, g, _, rfl, .inl (.of hg), _, _, rfl, rfl, _, rfl, ite2 (fun c2 => ?_) (fun c2 => ?_)⟩
      · have c3 : 0 < gs.length := by
          have : (0 : Int) < ((gs.map V.int).length : Int) := of_decide_eq_true c2
          rw [List.length_map] at this
          omega
        have hz : gs[gs.length - 1]? = some gs[gs.length - 1] := List.getElem?_eq_getElem (by omega)
        have hm := List.mem_of_getElem? hz
        generalize gs[gs.length - 1] = z at hz hm
        refine ⟨fun σ' H' => ∃ (gs : List Int) (a : Int), gs.length < t ∧ σ' = [some (.ref d), some (.int n), none] ∧ H' d = some (.lst [.ref g, .int a, .int m]) ∧ H' g = some (.lst (gs.map V.int)) ∧ gs.length ≤ 63 ∧ (∀ x ∈ gs, 0 ≤ x) ∧ 0 ≤ a ∧ Kd d g H H',
          fun σ' H' ⟨gs, a, h1, h2⟩ => ⟨_, h1, gs, a, rfl, h2⟩, ?_⟩
        refine ⟨_, rfl, d, _, _, _, rfl, rfl, .of hd, atI_nat (j := 0) rfl, .inl ⟨rfl, _, .of hg⟩, g, gs.map V.int, V.int z, rfl, rfl, hg, ?_, _, rfl, d, [.ref g, .int a, .int m], _, 1, rfl, rfl, ?_, rfl, gs.dropLast, z, ?_, rfl, ?_, ?_, ?_, ?_, g0 z hm, fun b o e n1 n2 => ?_⟩
        · rw [List.length_map, List.getElem?_map, hz]; rfl
        · rw [upd_ne dg]; exact hd
        · rw [List.length_dropLast]; omega
        · rw [upd_same]; rfl
        · rw [upd_ne dg.symm, upd_same, List.map_dropLast]
        · rw [List.length_dropLast]; omega
        · exact fun x hx => g0 x (List.dropLast_subset gs hx)
        · rw [upd_ne n1, upd_ne n2]; exact kd b o e n1 n2
      · refine ⟨_, rfl, d, _, _, _, rfl, rfl, .of hd, atI_nat (j := 1) rfl, _, _, rfl, rfl, _, rfl, iteND (by have : a < 2 := of_decide_eq_true c1; omega) ?_⟩
        have bm : -(2 ^ 64) < m ∧ m < 2 ^ 64 := ⟨by omega, by omega⟩
        have b0 : 0 ≤ m * 48271 % 2147483647 := Int.emod_nonneg _ (by decide)
        have b1 : m * 48271 % 2147483647 < 2147483647 := Int.emod_lt_of_pos _ (by decide)
        have bn : -(2 ^ 64) < m * 48271 % 2147483647 ∧ m * 48271 % 2147483647 < 2 ^ 64 := ⟨by omega, by omega⟩
        refine ⟨_, rfl, d, _, _, _, rfl, rfl, .of hd, atI_nat (j := 2) rfl, _, _, rfl, rfl, .inl bm, _, _, rfl, rfl, (by show (0 : Int) < 2147483647; decide), _, rfl, d, [.ref g, .int a, .int m], _, 2, rfl, rfl, hd, rfl, ?_⟩
        have e2 : (upd H1 d (.lst ([V.ref g, V.int a, V.int m].set 2 (V.int (m * 48271 % 2147483647))))) d = some (.lst [V.ref g, V.int a, V.int (m * 48271 % 2147483647)]) := upd_same
        refine ⟨_, rfl, d, _, _, _, rfl, rfl, .of e2, atI_nat (j := 2) rfl, _, rfl, d, _, _, _, rfl, rfl, .of e2, atI_nat (j := 2) rfl, _, _, rfl, rfl, .inl bn, _, _, rfl, rfl, (by show (0 : Int) < 2147483629; decide), _, rfl, d, _, _, _, rfl, rfl, .of e2, atI_nat (j := 2) rfl, _, _, rfl, rfl, ⟨by decide, by decide⟩, _, _, rfl, rfl, _, _, rfl, rfl, ⟨by decide, by decide⟩, _, rfl, _, _, rfl, rfl, hn, ?_⟩
        refine k _ _ (Int.emod_nonneg _ (by omega)) (Int.emod_lt_of_pos _ hn) ⟨gs, a, m * 48271 % 2147483647, e2, ?_, gl, g0, a0, b0, by omega⟩ fun b o e n1 n2 => ?_
        · rw [upd_ne dg.symm]; exact hg
        · rw [upd_ne n1]; exact kd b o e n1 n2
    · have c2 : ¬ a < 2 := fun z => c1 (decide_eq_true z)
      refine ⟨_, rfl, d, _, _, _, rfl, rfl, .of hd, atI_nat (j := 1) rfl, _, _, rfl, rfl, _, rfl, iteD (by omega) ?_⟩
      refine ⟨_, rfl, d, _, _, _, rfl, rfl, .of hd, atI_nat (j := 1) rfl, .inl ⟨_, rfl, _, rfl, _, _, rfl, rfl, hn, ?_⟩⟩
      refine ⟨_, rfl, d, _, _, _, rfl, rfl, .of hd, atI_nat (j := 1) rfl, _, rfl, _, _, rfl, rfl, ⟨hn, hl⟩, _, rfl, d, [.ref g, .int a, .int m], _, 1, rfl, rfl, hd, rfl, ?_⟩
      refine ⟨_, rfl, k _ _ (Int.emod_nonneg _ (by omega)) (Int.emod_lt_of_pos _ hn) ⟨gs, a / n, m, upd_same, ?_, gl, g0, Int.ediv_nonneg a0 (by omega), m0, m1⟩ fun b o e n1 n2 => ?_⟩
      · rw [upd_ne dg.symm]; exact hg
      · rw [upd_ne n1]; exact kd b o e n1 n2
/-! ### names -/
theorem Deck.same {H H' : Hp} {d g : Addr} (s : Same H H') (h : Deck H d g) : Deck H' d g := by
  obtain ⟨gs, a, m, h1, h2, h3⟩ := h
  exact ⟨gs, a, m, s _ _ h1, s _ _ h2, h3⟩
theorem Deck.at {H : Hp} {d g : Addr} (h : Deck H d g) : (∃ o, H d = some o) ∧ ∃ o, H g = some o := by
  obtain ⟨gs, a, m, h1, h2, h3⟩ := h
  exact ⟨⟨_, h1⟩, _, h2⟩
theorem Deck.new {H : Hp} {d g p : Addr} (h : Deck H d g) (hp : H p = none) : p ≠ d ∧ p ≠ g := by
  obtain ⟨⟨o, h1⟩, u, h2⟩ := h.at
  exact ⟨(ne_of_none h1 hp).symm, (ne_of_none h2 hp).symm⟩
theorem Kd.free {d g p : Addr} {H H' : Hp} (k : Kd d g H H') (h : H' p = none) (n1 : p ≠ d) (n2 : p ≠ g) : H p = none := by
  cases q : H p with
  | none => rfl
  | some o =>
    rw [k p o q n1 n2] at h
    cases h
def ltr : Str := "abcdefghijklmnopqrstuvwxyz"
theorem ltr_l : ltr.cps.toList = [97, 98, 99, 100, 101, 102, 103, 104, 105, 106, 107, 108, 109, 110, 111, 112, 113, 114, 115, 116, 117, 118, 119, 120, 121, 122] := by decide +kernel
theorem ltr_at : ∀ r : Nat, r < 26 → ltr.cps.toList[r]? = some (97 + r) := by
  rw [ltr_l]
  decide
theorem ltr_len : ltr.length ≤ sizeLine := by
  rw [len_l, ltr_l]
  show 26 ≤ sizeLine
  decide
def wrd : List Str := ["before", "upto", "same", "apart", "far", "next", "first", "last"]
theorem wrd_nm : ∀ z ∈ wrd, Nm z := by
  have h : ∀ z ∈ wrd, 1 ≤ z.length ∧ z.length ≤ 8 ∧ ∀ c ∈ z.cps.toList, 97 ≤ c ∧ c ≤ 122 := by decide +kernel
  exact fun z hz => ⟨(h z hz).1, (h z hz).2.1, (h z hz).2.2⟩
def one (c : Nat) : Str := ⟨#[c]⟩
theorem l_app (x y : Str) : (x ++ y).cps.toList = x.cps.toList ++ y.cps.toList := TL.tl_append x y
theorem l_cutT (z : Str) (i : Nat) : (cutS z none (some (i : Int))).cps.toList = z.cps.toList.take i := by
  show (z.cps.toList.drop 0).take (HT.sIx z.length z.length (some (i : Int)) - 0) = _
  rw [show HT.sIx z.length z.length (some (i : Int)) = min i z.length from HT.sIx_nat _ _ i, List.drop_zero, Nat.sub_zero, len_l]
  by_cases h : i ≤ z.cps.toList.length
  · rw [Nat.min_eq_left h]
  · rw [Nat.min_eq_right (by omega), List.take_of_length_le (Nat.le_refl _), List.take_of_length_le (by omega)]
theorem l_cutD (z : Str) (i : Nat) : (cutS z (some (i : Int)) none).cps.toList = z.cps.toList.drop i := by
  show (z.cps.toList.drop (HT.sIx z.length 0 (some (i : Int)))).take (z.length - HT.sIx z.length 0 (some (i : Int))) = _
  rw [show HT.sIx z.length 0 (some (i : Int)) = min i z.length from HT.sIx_nat _ _ i, len_l]
  by_cases h : i ≤ z.cps.toList.length
  · rw [Nat.min_eq_left h]
    exact List.take_of_length_le (by rw [List.length_drop]; exact Nat.le_refl _)
  · rw [Nat.min_eq_right (by omega), Nat.sub_self, List.take_zero, List.drop_eq_nil_of_le (by omega)]
theorem joinL_one : ∀ cs : List Nat, TL.joinL [] (cs.map fun c => [c]) = cs
  | [] => rfl
  | [_] => rfl
  | a :: b :: r => by
    have ih := joinL_one (b :: r)
    show [a] ++ ([] ++ TL.joinL [] ((b :: r).map fun c => [c])) = a :: b :: r
    rw [ih]
    rfl
theorem l_join (cs : List Nat) : (Txt.join ("" : Str) (cs.map one)).cps.toList = cs := by
  rw [TL.join_eq]
  show TL.tl _ = _
  rw [TL.tl_join, List.map_map]
  exact joinL_one cs
theorem join_room (cs : List Nat) (h : cs.length ≤ 1000) : ((cs.map one).map (·.length)).sum + (cs.map one).length * ("" : Str).length ≤ 16777216 := by
  have e : ((cs.map one).map (·.length)).sum = cs.length := by
    clear h
    induction cs with
    | nil => rfl
    | cons a r ih =>
      rw [List.map_cons, List.map_cons, List.sum_cons, ih, List.length_cons]
      show 1 + r.length = _
      omega
  rw [e, show ("" : Str).length = 0 from by decide +kernel]
  omega
theorem nodup_le : ∀ {l m : List Str}, l.Nodup → (∀ x ∈ l, x ∈ m) → l.length ≤ m.length
  | [], _, _, _ => Nat.zero_le _
  | a :: r, m, nd, h => by
    have ha := h a List.mem_cons_self
    have nd2 := List.nodup_cons.mp nd
    have ih := nodup_le (l := r) (m := m.erase a) nd2.2 fun x hx => (List.mem_erase_of_ne (fun e : x = a => nd2.1 (e ▸ hx))).mpr (h x (List.mem_cons_of_mem _ hx))
    rw [List.length_erase_of_mem ha] at ih
    have := List.length_pos_of_mem ha
    rw [List.length_cons]
    omega
theorem ltr_free {ts : List Str} (h : ts.length < 26) : ∃ c r, ltr.cps.toList.filter (fun c => decide (one c ∉ ts)) = c :: r := by
  cases e : ltr.cps.toList.filter (fun c => decide (one c ∉ ts)) with
  | cons c r => exact ⟨c, r, rfl⟩
  | nil =>
    exfalso
    have h1 : ∀ x ∈ ltr.cps.toList.map one, x ∈ ts := fun x hx => by
      obtain ⟨c, hc, rfl⟩ := List.mem_map.mp hx
      have := List.filter_eq_nil_iff.mp e c hc
      simpa using this
    have h2 : (ltr.cps.toList.map one).Nodup := by
      rw [ltr_l]
      decide +kernel
    have := nodup_le h2 h1
    rw [List.length_map, ltr_l] at this
    have h3 : 26 ≤ ts.length := this
    omega
theorem nm_one {c : Nat} (h1 : 97 ≤ c) (h2 : c ≤ 122) : Nm (one c) := ⟨by show 1 ≤ 1; decide, by show 1 ≤ 8; decide, fun x hx => by
  have : x = c := by simpa [one] using hx
  omega⟩
/-- [letters[draw(26)] for .. in range(n)]: the deck in slot 0, the letters in slot 2, the comprehension's own name in slot j -/
theorem lc_letters {σ : L2.St} {H : Hp} {j : Nat} {d g D : Addr} {n : Nat} {Qd : Hp → Prop} (hn : n ≤ 1000) (s0 : σ[0]? = some (some (.ref d))) (s2 : σ[2]? = some (some (.str ltr))) (j0 : j ≠ 0) (j2 : j ≠ 2) (hD : Deck H d g) (nD : H D = none)
    (q : ∀ (H' : Hp) (cs : List Nat), Deck H' d g → Kd d g H H' → H' D = some (.lst ((cs.map one).map V.str)) → cs.length = n → (∀ c ∈ cs, 97 ≤ c ∧ c ≤ 122) → Qd H') :
    ∃ W : Nat → Nat → Hp → Prop, (∃ m, W 0 m (upd H D (.lst []))) ∧ ∀ i m H, W i m H →
      ((Itr 0 n).stop i H ∧ Qd H) ∨ ((Itr 0 n).go i H ∧ ∃ Nx : Hp → Prop, (∀ H', Nx H' → ∃ m', m' < m ∧ W (i + 1) m' H') ∧ ∀ x H', (Itr 0 n).yld i H x H' → gName j x (wipe σ [j]) H' fun σ2 H2 => wipe σ2 [j] = wipe σ [j] ∧ tYes σ2 H2 fun b H3 =>
        if b = true then (tOp rIxS (tVar 2) (tCall sp_draw [] E0 (tCons (tVar 0) (tCons (tC (.int 26)) tNil)))) σ2 H3 fun y H4 => ∃ acc, H4 D = some (.lst acc) ∧ acc.length < sizeLine ∧ Nx (upd H4 D (.lst (acc ++ [y]))) else Nx H3) := by
  have nD2 := hD.new nD
  refine lc_range (lo := 0) (n := n) (fun i H' => ∃ cs : List Nat, Deck H' d g ∧ Kd d g H H' ∧ H' D = some (.lst ((cs.map one).map V.str)) ∧ cs.length = i ∧ ∀ c ∈ cs, 97 ≤ c ∧ c ≤ 122) ?_ ?_ ?_
  · exact ⟨[], hD.same (same_upd nD), Same.kd (same_upd nD), upd_same, rfl, fun _ h => absurd h List.not_mem_nil⟩
  · rintro i H1 hi ⟨cs, hD1, k1, eD, hl, low⟩
    have w : wipe ((wipe σ [j]).set j (some (.int (0 + (i : Int))))) [j] = wipe σ [j] := by
      show (((σ.set j none).set j (some (.int (0 + (i : Int))))).set j none) = σ.set j none
      rw [List.set_set, List.set_set]
    have t0 : ((wipe σ [j]).set j (some (.int (0 + (i : Int)))))[0]? = some (some (.ref d)) := by
      show ((σ.set j none).set j _)[0]? = _
      rw [List.getElem?_set_ne j0, List.getElem?_set_ne j0]
      exact s0
    have t2 : ((wipe σ [j]).set j (some (.int (0 + (i : Int)))))[2]? = some (some (.str ltr)) := by
      show ((σ.set j none).set j _)[2]? = _
      rw [List.getElem?_set_ne j2, List.getElem?_set_ne j2]
      exact s2
    refine ⟨w, _, t2, _, t0, d, g, 26, rfl, hD1, by decide, by decide +kernel, fun r H2 r0 r1 hD2 k2 => ?_⟩
    obtain ⟨m, rfl⟩ := Int.eq_ofNat_of_zero_le r0
    refine ⟨ltr, m, 97 + m, rfl, rfl, ltr_len, atI_nat (ltr_at m (by omega)), (cs.map one).map V.str, k2 _ _ eD nD2.1 nD2.2, ?_, cs ++ [97 + m], ?_, ?_, ?_, ?_, ?_⟩
    · rw [List.length_map, List.length_map]; exact small1000 (by omega)
    · obtain ⟨gs, a, mm, h1, h2, h3⟩ := hD2
      exact ⟨gs, a, mm, by rw [upd_ne nD2.1.symm]; exact h1, by rw [upd_ne nD2.2.symm]; exact h2, h3⟩
    · intro b o e n1 n2
      rw [upd_ne (ne_of_none e nD)]
      exact k2 b o (k1 b o e n1 n2) n1 n2
    · rw [upd_same, List.map_append, List.map_append]; rfl
    · rw [List.length_append, hl]; rfl
    · intro c hc
      rcases List.mem_append.mp hc with h | h
      · exact low c h
      · have := List.mem_singleton.mp h
        omega
  · rintro H1 ⟨cs, hD1, k1, eD, hl, low⟩
    exact q H1 cs hD1 k1 eD hl low
/-- what stands while names are found -/
structure NSt (H0 H' : Hp) (d g F W : Addr) (ts : List Str) : Prop where
  dk : Deck H' d g
  kd : Kd d g H0 H'
  eF : H' F = some (.lst (ts.map V.str))
  eW : H' W = some (.lst (wrd.map V.str))
  fF : H0 F = none
  nF : F ≠ d ∧ F ≠ g
  nW : W ≠ d ∧ W ≠ g
theorem NSt.draw {H0 H1 H2 : Hp} {d g F W : Addr} {ts : List Str} (n : NSt H0 H1 d g F W ts) (h : Deck H2 d g) (k : Kd d g H1 H2) : NSt H0 H2 d g F W ts :=
  ⟨h, n.kd.trans k, k _ _ n.eF n.nF.1 n.nF.2, k _ _ n.eW n.nW.1 n.nW.2, n.fF, n.nF, n.nW⟩
theorem nm_mid {st : Str} {a r : Nat} (low : Low st) (hl : st.length ≤ 7) (ha : a ≤ st.length) (hr : r < 26) : Nm ((cutS st none (some (a : Int)) ++ one (97 + r)) ++ cutS st (some (a : Int)) none) := by
  have e : ((cutS st none (some (a : Int)) ++ one (97 + r)) ++ cutS st (some (a : Int)) none).cps.toList = (st.cps.toList.take a ++ [97 + r]) ++ st.cps.toList.drop a := by
    rw [l_app, l_app, l_cutT, l_cutD]
    rfl
  rw [len_l] at hl ha
  refine ⟨?_, ?_, fun c hc => ?_⟩
  · rw [len_l, e, List.length_append, List.length_append, List.length_take, List.length_drop, List.length_singleton]; omega
  · rw [len_l, e, List.length_append, List.length_append, List.length_take, List.length_drop, List.length_singleton]; omega
  · rw [e] at hc
    rcases List.mem_append.mp hc with h | h
    · rcases List.mem_append.mp h with h | h
      · exact low c (List.mem_of_mem_take h)
      · have := List.mem_singleton.mp h
        omega
    · exact low c (List.mem_of_mem_drop h)
theorem nm_q {st : Str} {a : Nat} (low : Low st) (hl : st.length ≤ 7) (ha : a ≤ st.length) : Nm (cutS (st ++ ("q" : Str)) none (some (1 + (a : Int)))) := by
  have e : (cutS (st ++ ("q" : Str)) none (some (1 + (a : Int)))).cps.toList = (st.cps.toList ++ [113]).take (1 + a) := by
    have h := l_cutT (st ++ ("q" : Str)) (1 + a)
    rw [show ((1 + a : Nat) : Int) = 1 + (a : Int) by omega] at h
    rw [h, l_app, show ("q" : Str).cps.toList = [113] by decide +kernel]
  rw [len_l] at hl ha
  refine ⟨?_, ?_, fun c hc => ?_⟩
  · rw [len_l, e, List.length_take, List.length_append, List.length_singleton]; omega
  · rw [len_l, e, List.length_take, List.length_append, List.length_singleton]; omega
  · rw [e] at hc
    rcases List.mem_append.mp (List.mem_of_mem_take hc) with h | h
    · exact low c h
    · have := List.mem_singleton.mp h
      omega
theorem str_line {n : Nat} (h : n ≤ 1000) : n ≤ sizeLine := Nat.le_of_lt (small1000 h)
def sp_names : Sp := fun vs H Q _ => ∃ (d g : Addr) (n : Nat), vs = [.ref d, .int n] ∧ Deck H d g ∧ 0 < n ∧ n ≤ 12 ∧
  ∀ (p : Addr) (ts : List Str) (H' : Hp), Deck H' d g → Kd d g H H' → H p = none → H' p = some (.lst (ts.map V.str)) → p ≠ d → p ≠ g → ts.length = n → (∀ z ∈ ts, Nm z) → ts.Nodup → Q (.ref p) H'
theorem ok_law_names (T : Tx K w mg) : FnOk P w K mg base CX0 2 T.f_law_names T.d_law_names ["deck", "many"] sp_names := by
  refine T.F_law_names.ok sc_law_names (fun vs H Q E h => ?_) (fun cdv A outer s H vs Q E hr h => ?_)
  · obtain ⟨d, g, n, rfl, _⟩ := h
    rfl
  · obtain ⟨d, g, n, rfl, hD, hn, hl, k⟩ := h
    refine ⟨_,
    (pss_cons
      (ps_set (i := 2) sc_law_names.nd rfl (.inr rfl) pe_str)
    (pss_cons
      (ps_set (i := 3) sc_law_names.nd rfl (.inl rfl) (pe_lst (pa_cons pe_str (pa_cons pe_str (pa_cons pe_str (pa_cons pe_str (pa_cons pe_str (pa_cons pe_str (pa_cons pe_str (pa_cons pe_str pa_nil))))))))))
    (pss_cons
      (ps_set (i := 4) sc_law_names.nd rfl (.inl rfl) (pe_call (ok_law_draw T) hr (by rfl) T.g_law_draw T.F_law_draw.kp T.b_law_draw .nil pass0 (pa_cons (pv 0) (pa_cons pe_int pa_nil))))
    (pss_cons
      (ps_set (i := 5) sc_law_names.nd rfl (.inl rfl) (pe_join pe_str (pe_lc (own := [("k", 7)]) (g := gName 7) rfl sc_law_names.nd (pi_range1 (by rfl) T.m_range (pa_cons (pe_call (ok_law_draw T) hr (by rfl) T.g_law_draw T.F_law_draw.kp T.b_law_draw .nil pass0 (pa_cons (pv 0) (pa_cons pe_int pa_nil))) pa_nil)) (blkOk_by (N := ["deck", "many", "letters", "words", "way", "stem", "found", "k", "at", "name", "m", "one"]) (sc := defScope s_law_names) (own := [("k", 7)]) (by decide +kernel)) (fun _ _ _ _ _ => (pg_name (i := 7) sc_law_names.nd rfl (.inl rfl))) (fun _ _ _ _ _ => pts_nil) (fun _ _ _ _ _ => (pe_ix ix_str (pv 2) (pe_call (ok_law_draw T) hr (by rfl) T.g_law_draw T.F_law_draw.kp T.b_law_draw .nil pass0 (pa_cons (pv 0) (pa_cons pe_int pa_nil))) (fun _ _ => rfl))))))
    (pss_cons
      (ps_set (i := 6) sc_law_names.nd rfl (.inr rfl) (pe_lst pa_nil))
    (pss_cons
      (ps_for PassesOwn.never rfl (pi_range1 (by rfl) T.m_range (pa_cons (pv 1) pa_nil)) (pg_name (i := 7) sc_law_names.nd rfl (.inl rfl))
        (pss_cons
          (ps_set (i := 8) sc_law_names.nd rfl (.inl rfl) (pe_call (ok_law_draw T) hr (by rfl) T.g_law_draw T.F_law_draw.kp T.b_law_draw .nil pass0 (pa_cons (pv 0) (pa_cons (pe_op op_add (pe_callB call_len_str (by rfl) T.m_len (by decide +kernel) (pa_cons (pv 5) pa_nil)) pe_int) pa_nil))))
        (pss_cons
          (ps_set (i := 9) sc_law_names.nd rfl (.inl rfl) (pe_op op_add_str (pe_op op_add_str (pe_slice sl_str (pv 5) po_none (po_some (pv 8))) (pe_ix ix_str (pv 2) (pe_call (ok_law_draw T) hr (by rfl) T.g_law_draw T.F_law_draw.kp T.b_law_draw .nil pass0 (pa_cons (pv 0) (pa_cons pe_int pa_nil))) (fun _ _ => rfl))) (pe_slice sl_str (pv 5) (po_some (pv 8)) po_none)))
        (C8.pss_cut
          (ps_if (pt_cmpR op_eq (pv 4) pe_int (nomark _))
            (pss_one
              (ps_set (i := 9) sc_law_names.nd rfl (.inl rfl) (pe_slice sl_str (pe_op op_add_str (pv 5) pe_str) po_none (po_some (pe_op op_add pe_int (pv 8))))))
            pss_nil)
        (C8.pss_cut
          (ps_if (pt_cmpR op_eq (pv 4) pe_int (nomark _))
            (pss_one
              (ps_set (i := 9) sc_law_names.nd rfl (.inl rfl) (pe_ix ix_list (pv 3) (pe_call (ok_law_draw T) hr (by rfl) T.g_law_draw T.F_law_draw.kp T.b_law_draw .nil pass0 (pa_cons (pv 0) (pa_cons pe_int pa_nil))) (fun _ _ => rfl))))
            pss_nil)
        (C8.pss_cut
          (ps_if (pt_cmpR op_eq (pv 4) pe_int (nomark _))
            (pss_one
              (ps_set (i := 9) sc_law_names.nd rfl (.inl rfl) (pe_join pe_str (pe_lc (own := [("m", 10)]) (g := gName 10) rfl sc_law_names.nd (pi_range1 (by rfl) T.m_range (pa_cons (pe_op op_add pe_int (pe_call (ok_law_draw T) hr (by rfl) T.g_law_draw T.F_law_draw.kp T.b_law_draw .nil pass0 (pa_cons (pv 0) (pa_cons pe_int pa_nil)))) pa_nil)) (blkOk_by (N := ["deck", "many", "letters", "words", "way", "stem", "found", "k", "at", "name", "m", "one"]) (sc := defScope s_law_names) (own := [("m", 10)]) (by decide +kernel)) (fun _ _ _ _ _ => (pg_name (i := 10) sc_law_names.nd rfl (.inl rfl))) (fun _ _ _ _ _ => pts_nil) (fun _ _ _ _ _ => (pe_ix ix_str (pv 2) (pe_call (ok_law_draw T) hr (by rfl) T.g_law_draw T.F_law_draw.kp T.b_law_draw .nil pass0 (pa_cons (pv 0) (pa_cons pe_int pa_nil))) (fun _ _ => rfl)))))))
            pss_nil)
        (C8.pss_cut
          (ps_if (pt_cmpR op_in_seq (pv 9) (pv 6) (by rfl))
            (pss_one
              (ps_set (i := 9) sc_law_names.nd rfl (.inl rfl) (pe_ix ix_list (pe_lc (own := [("one", 11)]) (g := gName 11) rfl sc_law_names.nd (pi_str (pv 2)) (blkOk_by (N := ["deck", "many", "letters", "words", "way", "stem", "found", "k", "at", "name", "m", "one"]) (sc := defScope s_law_names) (own := [("one", 11)]) (by decide +kernel)) (fun _ _ _ _ _ => (pg_name (i := 11) sc_law_names.nd rfl (.inl rfl))) (fun _ _ _ _ _ => (pts_one (pt_cmpR (r := rIn K true) op_notIn_seq (pv 11) (pv 6) (by rfl)))) (fun _ _ _ _ _ => (pv 11))) pe_int (fun _ _ => rfl))))
            pss_nil)
        (pss_one
          (ps_expr (pe_bm PySem.F.plainAttrs_list PySem.F.slot_list_append PySem.F.type_list_append mt_append (pv 6) (pa_cons (pv 9) pa_nil)))))))))))
    (pss_one
      (ps_ret (pv 6))))))))), ?_⟩
    refine ⟨(by show 8 ≤ sizeLine; decide), fun W hW => ?_⟩
    have nW := hD.new hW
    refine ⟨_, rfl, d, g, 4, rfl, hD.same (same_upd hW), by decide, by decide +kernel, fun way H2 w0 w1 hD2 k2 => ?_⟩
    have eW : H2 W = some (.lst (wrd.map V.str)) := k2 _ _ upd_same nW.1 nW.2
    -- stem
    refine ⟨⟨_, rfl⟩, _, rfl, d, g, 8, rfl, hD2, by decide, by decide +kernel, fun m H3 m0 m1 hD3 k3 => ⟨_, rfl, by omega, by omega, fun J hJ => ?_⟩⟩
    refine lc_letters (n := m.toNat) (by omega) rfl rfl (by decide) (by decide) hD3 hJ fun H4 cs hD4 k4 eJ cl low => ?_
    refine ⟨_, J, cs.map one, rfl, rfl, .inl (.of eJ), join_room cs (by omega), ?_⟩
    have ls : Low (Txt.join ("" : Str) (cs.map one)) := fun c hc => by rw [l_join] at hc; exact low c hc
    have ll : (Txt.join ("" : Str) (cs.map one)).length ≤ 7 := by rw [len_l, l_join]; omega
    generalize hst : Txt.join ("" : Str) (cs.map one) = st at ls ll
    -- found = []
    refine ⟨Nat.zero_le _, fun F hF => ?_⟩
    have k0 : Kd d g H H4 := (Same.kd (same_upd hW)).trans (k2.trans (k3.trans k4))
    have eW4 := k4 _ _ (k3 _ _ eW nW.1 nW.2) nW.1 nW.2
    have nF := hD4.new hF
    have WF : W ≠ F := ne_of_none eW4 hF
    have fF : H F = none := k0.free hF nF.1 nF.2
    have n0 : NSt H (upd H4 F (.lst [])) d g F W [] := ⟨hD4.same (same_upd hF), k0.trans (Same.kd (same_upd hF)), upd_same, by rw [upd_ne WF]; exact eW4, fF, nF, nW⟩
    generalize upd H4 F (.lst []) = H5 at n0
    clear eW eW4 k0 k2 k3 k4 hD2 hD3 hD4 hF eJ
    refine ⟨_, rfl, _, rfl, by omega, by omega, for_range (n := _) (fun i σ H' => ∃ (ts : List Str) (x7 x8 x9 : Option V), σ = [some (.ref d), some (.int (n : Int)), some (.str ltr), some (.ref W), some (.int way), some (.str st), some (.ref F), x7, x8, x9, none, none] ∧
      NSt H H' d g F W ts ∧ ts.length = i ∧ (∀ z ∈ ts, Nm z) ∧ ts.Nodup) ⟨[], none, none, none, rfl, n0, rfl, (fun _ h => absurd h List.not_mem_nil), List.nodup_nil⟩ ?_ ?_⟩
    · rintro i σ H6 hi ⟨ts, x7, x8, x9, rfl, n6, tl, tn, td⟩
      have hi12 : i < 12 := by
        have : i < ((n : Int)).toNat := hi
        omega
      -- at, name
      refine ⟨_, rfl, _, rfl, _, rfl, str_line (by omega), _, _, rfl, rfl, d, g, _, rfl, n6.dk, ?_, ?_, fun a H7 a0 a1 hD7 k7 => ?_⟩
      · show (0 : Int) < (st.length : Int) + 1
        omega
      · exact small_log (by show ((st.length : Int) + 1).natAbs < 1024; omega)
      have a2 : a < (st.length : Int) + 1 := a1
      obtain ⟨a, rfl⟩ := Int.eq_ofNat_of_zero_le a0
      have n7 := n6.draw hD7 k7
      refine ⟨_, rfl, _, rfl, _, rfl, st, rfl, str_line (by omega), _, rfl, _, rfl, d, g, 26, rfl, n7.dk, by decide, by decide +kernel, fun r H8 r0 r1 hD8 k8 => ?_⟩
      obtain ⟨r, rfl⟩ := Int.eq_ofNat_of_zero_le r0
      have n8 := n7.draw hD8 k8
      have nz := nm_mid (st := st) (a := a) (r := r) ls ll (by omega) (by omega)
      have c1 := cutS_length st none (some (a : Int))
      have c2 := cutS_length st (some (a : Int)) none
      refine ⟨ltr, r, 97 + r, rfl, rfl, ltr_len, atI_nat (ltr_at r (by omega)), _, _, rfl, rfl, str_line (by show _ + 1 ≤ 1000; omega), _, rfl, _, rfl, _, rfl, st, rfl, str_line (by omega), _, _, rfl, rfl, str_line ?_, ?_⟩
      · have h1 := nz.few
        rw [len_l, l_app, List.length_append, ← len_l, ← len_l] at h1
        exact Nat.le_trans h1 (by decide)
      refine ⟨fun σ' H' => ∃ z, σ' = [some (.ref d), some (.int (n : Int)), some (.str ltr), some (.ref W), some (.int way), some (.str st), some (.ref F), some (.int (0 + (i : Int))), some (.int (a : Int)), some (.str z), none, none] ∧ NSt H H' d g F W ts ∧ Nm z, ?_, ?_⟩
      · refine ⟨_, rfl, rfl, _, rfl, ite2 (fun c => ?_) (fun c => ⟨(cutS st none (some (a : Int)) ++ one (97 + r)) ++ cutS st (some (a : Int)) none, rfl, n8, nz⟩)⟩
        refine ⟨_, rfl, _, _, rfl, rfl, str_line (by show _ + 1 ≤ 1000; omega), _, rfl, _, _, rfl, rfl, _, rfl, _, rfl, str_line ?_, _, rfl, n8, nm_q ls ll (by omega)⟩
        rw [len_l, l_app, List.length_append, ← len_l]
        show st.length + 1 ≤ 1000
        omega
      clear nz n8 n7 n6 hD7 hD8 k7 k8 c1 c2
      rintro σ H9 ⟨z, rfl, n9, nz⟩
      refine ⟨fun σ' H' => ∃ z, σ' = [some (.ref d), some (.int (n : Int)), some (.str ltr), some (.ref W), some (.int way), some (.str st), some (.ref F), some (.int (0 + (i : Int))), some (.int (a : Int)), some (.str z), none, none] ∧ NSt H H' d g F W ts ∧ Nm z, ?_, ?_⟩
      · refine ⟨_, rfl, rfl, _, rfl, ite2 (fun c => ?_) (fun c => ⟨z, rfl, n9, nz⟩)⟩
        refine ⟨_, rfl, _, rfl, d, g, 8, rfl, n9.dk, by decide, by decide +kernel, fun r H10 r0 r1 hD10 k10 => ?_⟩
        obtain ⟨r, rfl⟩ := Int.eq_ofNat_of_zero_le r0
        have n10 := n9.draw hD10 k10
        have hr8 : r < wrd.length := by show r < 8; omega
        exact ⟨W, _, _, V.str wrd[r], rfl, rfl, .of n10.eW, atI_nat (by rw [List.getElem?_map, List.getElem?_eq_getElem hr8]; rfl), _, rfl, n10, wrd_nm _ (List.getElem_mem hr8)⟩
      clear nz n9
      clear z H9
      rintro σ H9 ⟨z, rfl, n9, nz⟩
      refine ⟨fun σ' H' => ∃ z, σ' = [some (.ref d), some (.int (n : Int)), some (.str ltr), some (.ref W), some (.int way), some (.str st), some (.ref F), some (.int (0 + (i : Int))), some (.int (a : Int)), some (.str z), none, none] ∧ NSt H H' d g F W ts ∧ Nm z, ?_, ?_⟩
      · refine ⟨_, rfl, rfl, _, rfl, ite2 (fun c => ?_) (fun c => ⟨z, rfl, n9, nz⟩)⟩
        refine ⟨⟨_, rfl⟩, _, rfl, d, g, 8, rfl, n9.dk, by decide, by decide +kernel, fun m2 H10 m20 m21 hD10 k10 => ⟨_, _, rfl, rfl, _, rfl, by omega, by omega, fun J2 hJ2 => ?_⟩⟩
        have n10 := n9.draw hD10 k10
        refine lc_letters (n := (1 + m2).toNat) (by omega) rfl rfl (by decide) (by decide) n10.dk hJ2 fun H11 cs2 hD11 k11 eJ2 cl2 low2 => ?_
        refine ⟨_, J2, cs2.map one, rfl, rfl, .inl (.of eJ2), join_room cs2 (by omega), _, rfl, n10.draw hD11 k11, ?_, ?_, ?_⟩
        · rw [len_l, l_join]; omega
        · rw [len_l, l_join]; omega
        · intro c hc
          rw [l_join] at hc
          exact low2 c hc
      clear nz n9
      clear z H9
      rintro σ H9 ⟨z, rfl, n9, nz⟩
      refine ⟨fun σ' H' => ∃ z, σ' = [some (.ref d), some (.int (n : Int)), some (.str ltr), some (.ref W), some (.int way), some (.str st), some (.ref F), some (.int (0 + (i : Int))), some (.int (a : Int)), some (.str z), none, none] ∧ NSt H H' d g F W ts ∧ Nm z ∧ z ∉ ts, ?_, ?_⟩
      · refine ⟨_, rfl, _, rfl, F, _, rfl, .inl (.of n9.eF), rfl, flat_strs _, _, rfl, ite2 (fun c => ?_) (fun c => ?_)⟩
        · refine ⟨_, rfl, ltr, rfl, fun D hDn => ?_⟩
          refine lc_str (fun i H' => H' D = some (.lst ((((ltr.cps.toList.take i).filter (fun c => decide (one c ∉ ts))).map one).map V.str)) ∧ Same H9 H') ⟨upd_same, same_upd hDn⟩ ?_ ?_
          · rintro i2 c2 H10 hc2 ⟨eD, sm⟩
            have hc3 : ltr.cps.toList[i2]? = some c2 := by simpa using hc2
            have i26 : i2 < 26 := by
              have := (List.getElem?_eq_some_iff.mp hc3).1
              rw [ltr_l] at this
              exact this
            have et : ltr.cps.toList.take (i2 + 1) = ltr.cps.toList.take i2 ++ [c2] := by rw [List.take_add_one, hc3]; rfl
            refine ⟨rfl, _, rfl, _, rfl, F, _, rfl, .inl (.of (sm _ _ n9.eF)), rfl, flat_strs _, _, rfl, ?_⟩
            have ei : inV (V.str ⟨#[c2]⟩) (ts.map V.str) = decide (one c2 ∈ ts) := inV_str (one c2) ts
            refine ite2 (fun c => ?_) (fun c => ?_)
            · have h1 : (!inV (V.str ⟨#[c2]⟩) (ts.map V.str)) = true := c
              rw [ei] at h1
              have h2 : one c2 ∉ ts := by simpa using h1
              refine ⟨_, rfl, _, eD, ?_, ?_, fun b o e => ?_⟩
              · rw [List.length_map, List.length_map]
                refine small1000 (Nat.le_trans (List.length_filter_le _ _) ?_)
                rw [List.length_take]
                omega
              · rw [upd_same, et, List.filter_append, List.map_append, List.map_append]
                have : List.filter (fun c => decide (one c ∉ ts)) [c2] = [c2] := by rw [List.filter_cons_of_pos (by simpa using h2)]; rfl
                rw [this]
                rfl
              · rw [upd_ne (ne_of_none e hDn)]
                exact sm b o e
            · have h1 : ¬ (!inV (V.str ⟨#[c2]⟩) (ts.map V.str)) = true := c
              rw [ei] at h1
              have h2 : one c2 ∈ ts := by simpa using h1
              refine ⟨?_, sm⟩
              rw [eD, et, List.filter_append]
              have : List.filter (fun c => decide (one c ∉ ts)) [c2] = [] := by rw [List.filter_cons_of_neg (by simpa using h2)]; rfl
              rw [this, List.append_nil]
          · rintro H10 ⟨eD, sm⟩
            obtain ⟨c0, r0, e0⟩ := ltr_free (ts := ts) (by omega)
            have e26 : ltr.cps.size = ltr.cps.toList.length := by simp
            rw [e26, List.take_length, e0] at eD
            have hm : c0 ∈ ltr.cps.toList.filter (fun c => decide (one c ∉ ts)) := by rw [e0]; exact List.mem_cons_self
            obtain ⟨hm1, hm2⟩ := List.mem_filter.mp hm
            have hb : 97 ≤ c0 ∧ c0 ≤ 122 := by
              rw [ltr_l] at hm1
              simp only [List.mem_cons, List.not_mem_nil, or_false] at hm1
              omega
            exact ⟨D, _, _, V.str (one c0), rfl, rfl, .of eD, atI_nat (j := 0) rfl, one c0, rfl, n9.draw (n9.dk.same sm) (Same.kd sm), nm_one hb.1 hb.2, by simpa using hm2⟩
        · have h1 : ¬ inV (V.str z) (ts.map V.str) = true := c
          rw [inV_str] at h1
          exact ⟨z, rfl, n9, nz, by simpa using h1⟩
      clear nz n9
      clear z H9
      rintro σ H9 ⟨z, rfl, n9, nz, nin⟩
      refine ⟨_, rfl, .inl ⟨rfl, _, .of n9.eF⟩, _, rfl, F, _, _, rfl, rfl, n9.eF, ?_, ts ++ [z], _, _, _, rfl, ⟨?_, ?_, ?_, ?_, n9.fF, n9.nF, n9.nW⟩, ?_, ?_, ?_⟩
      · rw [List.length_map]; exact small1000 (by omega)
      · obtain ⟨gs, b, m, h1, h2, h3⟩ := n9.dk
        exact ⟨gs, b, m, by rw [upd_ne n9.nF.1.symm]; exact h1, by rw [upd_ne n9.nF.2.symm]; exact h2, h3⟩
      · intro b o e h1 h2
        rw [upd_ne (ne_of_none e n9.fF)]
        exact n9.kd b o e h1 h2
      · rw [upd_same, List.map_append]; rfl
      · rw [upd_ne WF]; exact n9.eW
      · rw [List.length_append, tl]; rfl
      · intro y hy
        rcases List.mem_append.mp hy with h | h
        · exact tn y h
        · rw [List.mem_singleton.mp h]; exact nz
      · exact List.nodup_append.mpr ⟨td, List.nodup_cons.mpr ⟨List.not_mem_nil, List.nodup_nil⟩, fun x hx y hy e => nin (by rw [← List.mem_singleton.mp hy, ← e]; exact hx)⟩
    · rintro σ H6 ⟨ts, x7, x8, x9, rfl, n6, tl, tn, td⟩
      exact ⟨_, rfl, k F ts H6 n6.dk n6.kd n6.fF n6.eF n6.nF.1 n6.nF.2 (by rw [tl]; omega) tn td⟩
/-! ### rules, data, orders -/
/-- tuples stand -/
def Tk (H H' : Hp) : Prop := ∀ b xs, H b = some (.tup xs) → H' b = some (.tup xs)
theorem Same.tk {H H' : Hp} (s : Same H H') : Tk H H' := fun b _ h => s b _ h
theorem Kd.tk {d g : Addr} {H H' : Hp} (k : Kd d g H H') (hD : Deck H d g) : Tk H H' := fun b xs h => by
  obtain ⟨gs, a, m, h1, h2, _⟩ := hD
  exact k b _ h (ne_of h h1 (by intro z; cases z)) (ne_of h h2 (by intro z; cases z))
theorem Tk.trans {H H1 H2 : Hp} (a : Tk H H1) (b : Tk H1 H2) : Tk H H2 := fun x xs h => b x xs (a x xs h)
theorem tk_mut {H : Hp} {p : Addr} {xs : List V} {o : HO} (h : H p = some (.lst xs)) : Tk H (upd H p o) := fun b ys e => by
  rw [upd_ne (ne_of e h (by intro z; cases z))]
  exact e
inductive Rls (ts : List Str) (H : Hp) : List Addr → List (List Str) → Prop
  | nil : Rls ts H [] []
  | cons {a : Addr} {l : List Str} {as : List Addr} {ls : List (List Str)} : H a = some (.tup (l.map V.str)) → RuleOk ts l → Rls ts H as ls → Rls ts H (a :: as) (l :: ls)
theorem Rls.keep {ts : List Str} {H H' : Hp} (k : Tk H H') : ∀ {as : List Addr} {ls : List (List Str)}, Rls ts H as ls → Rls ts H' as ls
  | _, _, .nil => .nil
  | _, _, .cons h n r => .cons (k _ _ h) n (r.keep k)
theorem Rls.snoc {ts : List Str} {H : Hp} {a : Addr} {l : List Str} (h : H a = some (.tup (l.map V.str))) (n : RuleOk ts l) : ∀ {as : List Addr} {ls : List (List Str)}, Rls ts H as ls → Rls ts H (as ++ [a]) (ls ++ [l])
  | _, _, .nil => .cons h n .nil
  | _, _, .cons h1 n1 r => .cons h1 n1 (r.snoc h n)
theorem Rls.len {ts : List Str} {H : Hp} : ∀ {as : List Addr} {ls : List (List Str)}, Rls ts H as ls → as.length = ls.length
  | _, _, .nil => rfl
  | _, _, .cons _ _ r => congrArg Nat.succ r.len
theorem Rls.at {ts : List Str} {H : Hp} {a : Addr} : ∀ {as : List Addr} {ls : List (List Str)} {i : Nat}, Rls ts H as ls → as[i]? = some a → ∃ l, ls[i]? = some l ∧ H a = some (.tup (l.map V.str)) ∧ RuleOk ts l
  | _, _, _, .nil, e => by simp at e
  | _, _, 0, .cons h n r, e => by
    have := Option.some.inj e
    subst this
    exact ⟨_, rfl, h, n⟩
  | _, _, i + 1, .cons h n r, e => r.at (i := i) e
theorem Rls.set {ts : List Str} {H : Hp} {a : Addr} {l : List Str} (h : H a = some (.tup (l.map V.str))) (n : RuleOk ts l) : ∀ {as : List Addr} {ls : List (List Str)} (i : Nat), Rls ts H as ls → Rls ts H (as.set i a) (ls.set i l)
  | _, _, _, .nil => .nil
  | _, _, 0, .cons _ _ r => .cons h n r
  | _, _, i + 1, .cons h1 n1 r => .cons h1 n1 (Rls.set h n i r)
theorem Rls.mem {ts : List Str} {H : Hp} {as : List Addr} {ls : List (List Str)} (h : Rls ts H as ls) {a : Addr} (ha : a ∈ as) : ∃ l, H a = some (.tup (l.map V.str)) ∧ RuleOk ts l := by
  obtain ⟨i, hi, e⟩ := List.mem_iff_getElem.mp ha
  obtain ⟨l, _, h2, h3⟩ := h.at (i := i) (by rw [List.getElem?_eq_getElem hi, e])
  exact ⟨l, h2, h3⟩
/-- what stands from H0 on, all but the deck -/
structure Std (H0 H' : Hp) (d g : Addr) : Prop where
  dk : Deck H' d g
  kd : Kd d g H0 H'
theorem Std.refl {H : Hp} {d g : Addr} (h : Deck H d g) : Std H H d g := ⟨h, Kd.refl H⟩
theorem Std.draw {H0 H1 H2 : Hp} {d g : Addr} (s : Std H0 H1 d g) (h : Deck H2 d g) (k : Kd d g H1 H2) : Std H0 H2 d g := ⟨h, s.kd.trans k⟩
theorem Std.trans {H0 H1 H2 : Hp} {d g : Addr} (s : Std H0 H1 d g) (t : Std H1 H2 d g) : Std H0 H2 d g := ⟨t.dk, s.kd.trans t.kd⟩
theorem Std.new {H0 H1 : Hp} {d g p : Addr} {o : HO} (s : Std H0 H1 d g) (hp : H1 p = none) : Std H0 (upd H1 p o) d g := ⟨s.dk.same (same_upd hp), s.kd.trans (Same.kd (same_upd hp))⟩
theorem Std.free {H0 H1 : Hp} {d g p : Addr} (s : Std H0 H1 d g) (hp : H1 p = none) : H0 p = none := s.kd.free hp (s.dk.new hp).1 (s.dk.new hp).2
theorem Std.mut {H0 H1 : Hp} {d g p : Addr} {o : HO} (s : Std H0 H1 d g) (hp : H0 p = none) (n1 : p ≠ d) (n2 : p ≠ g) : Std H0 (upd H1 p o) d g := by
  refine ⟨?_, fun b u e h1 h2 => ?_⟩
  · obtain ⟨gs, a, m, h1, h2, h3⟩ := s.dk
    exact ⟨gs, a, m, by rw [upd_ne n1.symm]; exact h1, by rw [upd_ne n2.symm]; exact h2, h3⟩
  · rw [upd_ne (ne_of_none e hp)]
    exact s.kd b u e h1 h2
/-- a list apart from the deck -/
structure Lat (H : Hp) (d g p : Addr) (xs : List V) : Prop where
  at_ : H p = some (.lst xs)
  nd : p ≠ d
  ng : p ≠ g
theorem Lat.keep {H H' : Hp} {d g p : Addr} {xs : List V} (h : Lat H d g p xs) (k : Kd d g H H') : Lat H' d g p xs := ⟨k _ _ h.at_ h.nd h.ng, h.nd, h.ng⟩
theorem Lat.new {H : Hp} {d g p : Addr} {xs : List V} (h : Deck H d g) (hp : H p = none) : Lat (upd H p (.lst xs)) d g p xs := ⟨upd_same, (h.new hp).1, (h.new hp).2⟩
def kds : List Str := ["first", "last", "before", "upto", "same", "apart", "far", "next"]
theorem kds_two : ∀ z ∈ kds, z ∈ two ∨ z ∈ six := by decide +kernel
theorem kds_first : ∀ r : Nat, (h : r < kds.length) → r < 2 → kds[r] ∈ two := by decide +kernel
theorem two_in (z : Str) : inV (V.str z) [V.str ("first" : Str), V.str ("last" : Str)] = decide (z ∈ two) := inV_str z two
theorem turn_ne {n e p : Int} (hn : 2 ≤ n) (p0 : 0 ≤ p) (p1 : p < n) (e0 : 0 ≤ e) (e1 : e < n - 1) : 0 ≤ (p + 1 + e) % n ∧ (p + 1 + e) % n < n ∧ (p + 1 + e) % n ≠ p := by
  refine ⟨Int.emod_nonneg _ (by omega), Int.emod_lt_of_pos _ (by omega), ?_⟩
  by_cases h : p + 1 + e < n
  · rw [Int.emod_eq_of_lt (by omega) h]; omega
  · rw [← Int.sub_emod_right, Int.emod_eq_of_lt (by omega) (by omega)]; omega
def sp_rule : Sp := fun vs H Q _ => ∃ (d g t : Addr) (ts : List Str), vs = [.ref d, .ref t] ∧ Deck H d g ∧ Lat H d g t (ts.map V.str) ∧ TasksOk ts ∧
  ∀ (a : Addr) (l : List Str) (H' : Hp), Std H H' d g → H a = none → H' a = some (.tup (l.map V.str)) → RuleOk ts l → Q (.ref a) H'
theorem ok_law_rule (T : Tx K w mg) : FnOk P w K mg base CX0 2 T.f_law_rule T.d_law_rule ["deck", "task_list"] sp_rule := by
  refine T.F_law_rule.ok sc_law_rule (fun vs H Q E h => ?_) (fun cdv A outer s H vs Q E hr h => ?_)
  · obtain ⟨d, g, t, ts, rfl, _⟩ := h
    rfl
  · obtain ⟨d, g, t, ts, rfl, hD, lt, ok, k⟩ := h
    refine ⟨_,
    (pss_cons
      (ps_set (i := 2) sc_law_rule.nd rfl (.inl rfl) (pe_lst (pa_cons pe_str (pa_cons pe_str (pa_cons pe_str (pa_cons pe_str (pa_cons pe_str (pa_cons pe_str (pa_cons pe_str (pa_cons pe_str pa_nil))))))))))
    (pss_cons
      (ps_if (pt_cmpR op_eq (pe_callB call_len_seq (by rfl) T.m_len (by decide +kernel) (pa_cons (pv 1) pa_nil)) pe_int (nomark _))
        (pss_one
          (ps_ret (pe_tup (pa_cons (pe_ix ix_list (pv 2) (pe_call (ok_law_draw T) hr (by rfl) T.g_law_draw T.F_law_draw.kp T.b_law_draw .nil pass0 (pa_cons (pv 0) (pa_cons pe_int pa_nil))) (fun _ _ => rfl)) (pa_cons (pe_ix ix_list (pv 1) pe_int (fun _ _ => rfl)) pa_nil)))))
        pss_nil)
    (pss_cons
      (ps_set (i := 3) sc_law_rule.nd rfl (.inl rfl) (pe_ix ix_list (pv 2) (pe_call (ok_law_draw T) hr (by rfl) T.g_law_draw T.F_law_draw.kp T.b_law_draw .nil pass0 (pa_cons (pv 0) (pa_cons pe_int pa_nil))) (fun _ _ => rfl)))
    (pss_cons
      (ps_set (i := 4) sc_law_rule.nd rfl (.inl rfl) (pe_call (ok_law_draw T) hr (by rfl) T.g_law_draw T.F_law_draw.kp T.b_law_draw .nil pass0 (pa_cons (pv 0) (pa_cons (pe_callB call_len_seq (by rfl) T.m_len (by decide +kernel) (pa_cons (pv 1) pa_nil)) pa_nil))))
    (pss_cons
      (ps_if (pt_cmpR op_in_seq (pv 3) (pe_tup (pa_cons pe_str (pa_cons pe_str pa_nil))) (by rfl))
        (pss_one
          (ps_ret (pe_tup (pa_cons (pv 3) (pa_cons (pe_ix ix_list (pv 1) (pv 4) (fun _ _ => rfl)) pa_nil)))))
        pss_nil)
    (pss_one
      (ps_ret (pe_tup (pa_cons (pv 3) (pa_cons (pe_ix ix_list (pv 1) (pv 4) (fun _ _ => rfl)) (pa_cons (pe_ix ix_list (pv 1) (pe_op op_mod (pe_op op_add (pe_op op_add (pv 4) pe_int) (pe_call (ok_law_draw T) hr (by rfl) T.g_law_draw T.F_law_draw.kp T.b_law_draw .nil pass0 (pa_cons (pv 0) (pa_cons (pe_op op_sub (pe_callB call_len_seq (by rfl) T.m_len (by decide +kernel) (pa_cons (pv 1) pa_nil)) pe_int) pa_nil)))) (pe_callB call_len_seq (by rfl) T.m_len (by decide +kernel) (pa_cons (pv 1) pa_nil))) (fun _ _ => rfl)) pa_nil))))))))))), ?_⟩
    have tne : 0 < ts.length := List.length_pos_iff.mpr ok.ne
    have tfew := ok.few
    refine ⟨(by show 8 ≤ sizeLine; decide), fun Z hZ => ?_⟩
    have s1 : Std H (upd H Z (.lst (kds.map V.str))) d g := (Std.refl hD).new hZ
    have lz : Lat (upd H Z (.lst (kds.map V.str))) d g Z (kds.map V.str) := Lat.new hD hZ
    have lt1 := lt.keep s1.kd
    refine ⟨_, rfl, t, _, rfl, .inl (.of lt1.at_), rfl, _, rfl, ite2 (fun c => ?_) (fun c => ?_)⟩
    · have c1 : ts.length = 1 := by
        have := V.int.inj (of_decide_eq_true c)
        rw [List.length_map] at this
        omega
      refine ⟨_, rfl, _, rfl, d, g, 2, rfl, s1.dk, by decide, by decide +kernel, fun r H2 r0 r1 hD2 k2 => ?_⟩
      obtain ⟨r, rfl⟩ := Int.eq_ofNat_of_zero_le r0
      have s2 := s1.draw hD2 k2
      have hr8 : r < kds.length := by show r < 8; omega
      refine ⟨Z, _, _, V.str kds[r], rfl, rfl, .of (lz.keep k2).at_, atI_nat (by rw [List.getElem?_map, List.getElem?_eq_getElem hr8]; rfl), _, rfl, t, _, _, V.str ts[0], rfl, rfl, .of (lt.keep s2.kd).at_, atI_nat (j := 0) (by rw [List.getElem?_map, List.getElem?_eq_getElem tne]; rfl), (by show 2 ≤ sizeLine; decide), fun a ha => ?_⟩
      exact k a [kds[r], ts[0]] _ (s2.new ha) (s2.free ha) upd_same (.inl ⟨_, _, kds_first r hr8 (by omega), List.getElem_mem tne, rfl⟩)
    · have c1 : ts.length ≠ 1 := fun z => c (decide_eq_true (by rw [List.length_map, z]; rfl))
      refine ⟨_, rfl, _, rfl, d, g, 8, rfl, s1.dk, by decide, by decide +kernel, fun r H2 r0 r1 hD2 k2 => ?_⟩
      obtain ⟨r, rfl⟩ := Int.eq_ofNat_of_zero_le r0
      have s2 := s1.draw hD2 k2
      have hr8 : r < kds.length := by show r < 8; omega
      refine ⟨Z, _, _, V.str kds[r], rfl, rfl, .of (lz.keep k2).at_, atI_nat (by rw [List.getElem?_map, List.getElem?_eq_getElem hr8]; rfl), ?_⟩
      have hk := kds_two _ (List.getElem_mem hr8)
      generalize kds[r] = kd at hk
      -- one
      have lt2 := lt.keep s2.kd
      refine ⟨_, rfl, _, rfl, t, _, rfl, .inl (.of lt2.at_), d, g, _, rfl, s2.dk, ?_, ?_, fun p H3 p0 p1 hD3 k3 => ?_⟩
      · rw [List.length_map]; omega
      · rw [List.length_map]; exact small_log (by omega)
      rw [List.length_map] at p1
      obtain ⟨p, rfl⟩ := Int.eq_ofNat_of_zero_le p0
      have s3 := s2.draw hD3 k3
      have hp : p < ts.length := by omega
      refine ⟨_, rfl, (by show 2 ≤ sizeLine; decide), fun U hU => ⟨U, _, rfl, .inr (.of upd_same), rfl, rfl, _, rfl, ?_⟩⟩
      have s4 : Std H (upd H3 U (.tup [.str ("first" : Str), .str ("last" : Str)])) d g := s3.new hU
      have lt4 := lt.keep s4.kd
      refine ite2 (fun c => ?_) (fun c => ?_)
      · have h1 : inV (V.str kd) [V.str ("first" : Str), V.str ("last" : Str)] = true := c
        rw [two_in] at h1
        refine ⟨_, rfl, _, rfl, _, rfl, t, _, _, V.str ts[p], rfl, rfl, .of lt4.at_, atI_nat (by rw [List.getElem?_map, List.getElem?_eq_getElem hp]; rfl), (by show 2 ≤ sizeLine; decide), fun a ha => ?_⟩
        exact k a [kd, ts[p]] _ (s4.new ha) (s4.free ha) upd_same (.inl ⟨_, _, of_decide_eq_true h1, List.getElem_mem hp, rfl⟩)
      · have h1 : ¬ inV (V.str kd) [V.str ("first" : Str), V.str ("last" : Str)] = true := c
        rw [two_in] at h1
        have h2 : kd ∉ two := fun z => h1 (decide_eq_true z)
        have h3 : kd ∈ six := hk.resolve_left h2
        refine ⟨_, rfl, _, rfl, _, rfl, t, _, _, V.str ts[p], rfl, rfl, .of lt4.at_, atI_nat (by rw [List.getElem?_map, List.getElem?_eq_getElem hp]; rfl), ?_⟩
        refine ⟨_, rfl, _, rfl, _, _, rfl, rfl, _, rfl, _, rfl, t, _, rfl, .inl (.of lt4.at_), _, _, rfl, rfl, d, g, _, rfl, s4.dk, ?_, ?_, fun e H5 e0 e1 hD5 k5 => ?_⟩
        · show (0 : Int) < ((ts.map V.str).length : Int) - 1
          rw [List.length_map]; omega
        · refine small_log ?_
          show (((ts.map V.str).length : Int) - 1).natAbs < 1024
          rw [List.length_map]; omega
        have e2 : e < ((ts.map V.str).length : Int) - 1 := e1
        rw [List.length_map] at e2
        have s5 := s4.draw hD5 k5
        have lt5 := lt.keep s5.kd
        obtain ⟨q0, q1, qn⟩ := turn_ne (n := ts.length) (e := e) (p := p) (by omega) (by omega) (by omega) e0 e2
        obtain ⟨q, hq⟩ := Int.eq_ofNat_of_zero_le q0
        have hql : q < ts.length := by omega
        refine ⟨_, _, rfl, rfl, _, rfl, t, _, rfl, .inl (.of lt5.at_), _, _, rfl, rfl, ?_, t, _, _, V.str ts[q], rfl, rfl, .of lt5.at_, at_of (j := q) ?_ (by rw [List.getElem?_map, List.getElem?_eq_getElem hql]; rfl), (by show 3 ≤ sizeLine; decide), fun a ha => ?_⟩
        · show (0 : Int) < ((ts.map V.str).length : Int)
          rw [List.length_map]; omega
        · show ((p : Int) + 1 + e) % ((ts.map V.str).length : Int) = (q : Int)
          rw [List.length_map]; exact hq
        refine k a [kd, ts[p], ts[q]] _ (s5.new ha) (s5.free ha) upd_same (.inr ⟨_, _, _, h3, List.getElem_mem hp, List.getElem_mem hql, fun z => ?_, rfl⟩)
        have := (List.getElem_inj ok.nd).mp z
        omega
def sp_order : Sp := fun vs H Q _ => ∃ (d g : Addr) (n : Nat), vs = [.ref d, .int n] ∧ Deck H d g ∧ n ≤ 1000 ∧
  ∀ (p : Addr) (os : List Int) (H' : Hp), Std H H' d g → H p = none → H' p = some (.lst (os.map V.int)) → p ≠ d → p ≠ g → (∀ o ∈ os, 0 ≤ o ∧ o < n) → os.length = n → os.Nodup → Q (.ref p) H'
theorem erase_map : ∀ (l : List Int) (j : Nat), (l.map V.int).eraseIdx j = (l.eraseIdx j).map V.int
  | [], _ => rfl
  | _ :: _, 0 => rfl
  | a :: r, j + 1 => by
    show V.int a :: (r.map V.int).eraseIdx j = V.int a :: (r.eraseIdx j).map V.int
    rw [erase_map r j]
def rng (n : Nat) : List Int := (List.range n).map Int.ofNat
theorem rng_v (n : Nat) : rgV 0 (n : Int) = (rng n).map V.int := by
  unfold rgV rng
  rw [List.map_map, show ((n : Int) - 0).toNat = n by omega]
  refine List.map_congr_left fun i _ => ?_
  show V.int (0 + (i : Int)) = V.int (i : Int)
  rw [Int.zero_add]
theorem rng_in {n : Nat} {o : Int} (h : o ∈ rng n) : 0 ≤ o ∧ o < n := by
  obtain ⟨i, hi, rfl⟩ := List.mem_map.mp h
  have := List.mem_range.mp hi
  have e : Int.ofNat i = (i : Int) := rfl
  omega
theorem rng_nd (n : Nat) : (rng n).Nodup := by
  unfold rng List.Nodup
  rw [List.pairwise_map]
  exact (List.nodup_range (n := n)).imp fun h z => h (Int.ofNat.inj z)
theorem rng_len (n : Nat) : (rng n).length = n := by
  unfold rng
  rw [List.length_map, List.length_range]
theorem log20 {m : Int} (h : m.natAbs < 1048576) : m.natAbs.log2 < 9000 := by
  have h1 : m.natAbs.log2 < 20 := PySem.Flt.log2_lt_of (by decide) h
  omega
theorem perm_erase : ∀ (l : List Int) (j : Nat) (h : j < l.length), l.Perm (l[j] :: l.eraseIdx j)
  | a :: r, 0, _ => List.Perm.refl _
  | a :: r, j + 1, h => by
    have ih := perm_erase r j (Nat.lt_of_succ_lt_succ h)
    exact (List.Perm.cons a ih).trans (List.Perm.swap _ _ _)
theorem ok_law_order (T : Tx K w mg) : FnOk P w K mg base CX0 2 T.f_law_order T.d_law_order ["deck", "many"] sp_order := by
  refine T.F_law_order.ok sc_law_order (fun vs H Q E h => ?_) (fun cdv A outer s H vs Q E hr h => ?_)
  · obtain ⟨d, g, n, rfl, _⟩ := h
    rfl
  · obtain ⟨d, g, n, rfl, hD, hn, k⟩ := h
    refine ⟨_,
    (pss_cons
      (ps_set (i := 2) sc_law_order.nd rfl (.inr rfl) (pe_listRg rfl (by rfl) T.m_list (prg_1 (by rfl) T.m_range (pv 1))))
    (pss_one
      (ps_ret (pe_lc (own := [("k", 3)]) (g := gName 3) rfl sc_law_order.nd (pi_range1 (by rfl) T.m_range (pa_cons (pv 1) pa_nil)) (blkOk_by (N := ["deck", "many", "left", "k"]) (sc := defScope s_law_order) (own := [("k", 3)]) (by decide +kernel)) (fun _ _ _ _ _ => (pg_name (i := 3) sc_law_order.nd rfl (.inl rfl))) (fun _ _ _ _ _ => pts_nil) (fun _ _ _ _ _ => (pe_bmK (K := K) rfl PySem.F.plainAttrs_list PySem.F.slot_list_pop PySem.F.type_list_pop mt_popAt (pv 2) (pa_cons (pe_call (ok_law_draw T) hr (by rfl) T.g_law_draw T.F_law_draw.kp T.b_law_draw .nil pass0 (pa_cons (pv 0) (pa_cons (pe_callB (id := "len") (r := rLen K) call_len_seq (by rfl) T.m_len (by decide +kernel) (pa_cons (pv 2) pa_nil)) pa_nil))) pa_nil))))))), ?_⟩
    refine ⟨_, rfl, _, rfl, ?_, fun L hL => ?_⟩
    · exact RgOk.of_le (by omega) (by omega) (by omega) (by omega)
    rw [rng_v]
    have dL := hD.new hL
    have s1 : Std H (upd H L (.lst ((rng n).map V.int))) d g := (Std.refl hD).new hL
    have e1 : (upd H L (.lst ((rng n).map V.int))) L = some (.lst ((rng n).map V.int)) := upd_same
    generalize upd H L (.lst ((rng n).map V.int)) = H1 at s1 e1
    refine ⟨_, rfl, _, rfl, by omega, by omega, fun D hDn => ?_⟩
    have dD := s1.dk.new hDn
    have LD : L ≠ D := ne_of_none e1 hDn
    have fD := s1.free hDn
    refine lc_range (lo := 0) (n := ((n : Int)).toNat) (fun i H' => ∃ os ls : List Int, Std H H' d g ∧ H' L = some (.lst (ls.map V.int)) ∧ H' D = some (.lst (os.map V.int)) ∧ (os ++ ls).Nodup ∧ (∀ o ∈ os ++ ls, 0 ≤ o ∧ o < n) ∧ os.length = i ∧ ls.length + i = n) ?_ ?_ ?_
    · exact ⟨[], rng n, s1.new hDn, by rw [upd_ne LD]; exact e1, upd_same, rng_nd n, fun o ho => rng_in ho, rfl, rng_len n⟩
    · rintro i H2 hi ⟨os, ls, s2, eL, eD, nd, hin, ol, ll⟩
      have hi2 : i < n := by
        have : i < ((n : Int)).toNat := hi
        omega
      refine ⟨rfl, _, rfl, .inl ⟨rfl, _, .of eL⟩, _, rfl, _, rfl, L, _, rfl, .inl (.of eL), d, g, _, rfl, s2.dk, ?_, ?_, fun r H3 r0 r1 hD3 k3 => ?_⟩
      · show (0 : Int) < ((ls.map V.int).length : Int)
        rw [List.length_map]; omega
      · refine log20 ?_
        show (((ls.map V.int).length : Nat) : Int).natAbs < 1048576
        rw [List.length_map]; omega
      have r2 : r < ((ls.map V.int).length : Int) := r1
      rw [List.length_map] at r2
      obtain ⟨j, rfl⟩ := Int.eq_ofNat_of_zero_le r0
      have hj : j < ls.length := by omega
      have s3 := s2.draw hD3 k3
      have eL3 := k3 _ _ eL dL.1 dL.2
      have eD3 := k3 _ _ eD dD.1 dD.2
      have pm : (os ++ ls).Perm ((os ++ [ls[j]]) ++ ls.eraseIdx j) := by
        rw [List.append_assoc]
        exact List.Perm.append_left os (perm_erase ls j hj)
      refine ⟨L, ls.map V.int, j, j, V.int ls[j], rfl, rfl, eL3, by omega, by omega, (ixN_seq (ixN_nat (by rw [List.length_map]; exact hj))).1, by rw [List.getElem?_map, List.getElem?_eq_getElem hj]; rfl, os.map V.int, ?_, ?_, os ++ [ls[j]], ls.eraseIdx j, (s3.mut hL dL.1 dL.2).mut fD dD.1 dD.2, ?_, ?_, pm.nodup_iff.mp nd, fun o ho => hin o (pm.mem_iff.mpr ho), ?_, ?_⟩
      · rw [upd_ne LD.symm]; exact eD3
      · rw [List.length_map, ol]; exact small1000 (by omega)
      · rw [upd_ne LD, upd_same, erase_map]
      · rw [upd_same, List.map_append]; rfl
      · rw [List.length_append, ol]; rfl
      · rw [List.length_eraseIdx_of_lt hj]; omega
    · rintro H2 ⟨os, ls, s2, eL, eD, nd, hin, ol, ll⟩
      exact k D os H2 s2 fD eD dD.1 dD.2 (fun o ho => hin o (List.mem_append_left _ ho)) (by rw [ol]; omega) (List.nodup_append.mp nd).1
/-! ### data as wholes -/
theorem nm_ok {z : Str} (h : Nm z) : PyData.canLay0 (.str z) = true := by
  simp only [PyData.canLay0, PyData.strOk, Array.all_eq_true, decide_eq_true_eq]
  intro i hi
  have hm : z.cps[i] ∈ z.cps.toList := by simp
  have := h.low _ hm
  omega
theorem kd_ok : ∀ z ∈ two ++ six, PyData.canLay0 (.str z) = true := by decide +kernel
theorem rule_ok {ts l : List Str} (ok : TasksOk ts) (h : RuleOk ts l) : ∀ z ∈ l, PyData.canLay0 (.str z) = true := by
  rcases h with ⟨k, x, h1, h2, rfl⟩ | ⟨k, x, y, h1, h2, h3, _, rfl⟩
  · intro z hz
    simp only [List.mem_cons, List.not_mem_nil, or_false] at hz
    rcases hz with rfl | rfl
    · exact kd_ok _ (List.mem_append_left _ h1)
    · exact nm_ok (ok.nm _ h2)
  · intro z hz
    simp only [List.mem_cons, List.not_mem_nil, or_false] at hz
    rcases hz with rfl | rfl | rfl
    · exact kd_ok _ (List.mem_append_right _ h1)
    · exact nm_ok (ok.nm _ h2)
    · exact nm_ok (ok.nm _ h3)
theorem lay_strs : ∀ {ss : List Str}, (∀ z ∈ ss, PyData.canLay0 (.str z) = true) → PyData.canLayAll0 (ss.map PyData.str) = true
  | [], _ => rfl
  | a :: r, h => by
    show (PyData.canLay0 (.str a) && PyData.canLayAll0 (r.map PyData.str)) = true
    rw [h a List.mem_cons_self, lay_strs fun z hz => h z (List.mem_cons_of_mem _ hz)]
    rfl
theorem depth_strs : ∀ (ss : List Str), PyData.depthAll (ss.map PyData.str) ≤ 1
  | [] => by simp [PyData.depthAll]
  | a :: r => by
    have := depth_strs r
    simp only [List.map_cons, PyData.depthAll, PyData.depth]
    omega
theorem dp_strs {H : Hp} : ∀ {ss : List Str}, DpAll K H (ss.map V.str) (ss.map PyData.str)
  | [] => .nil
  | _ :: _ => .cons (.str _) dp_strs
def tdata (ts : List Str) : PyData := .list (ts.map PyData.str)
def rdata (l : List Str) : PyData := .tuple (l.map PyData.str)
def rsdata (ls : List (List Str)) : PyData := .list (ls.map rdata)
theorem tdata_ok {ts : List Str} (ok : TasksOk ts) : SeqAt.shaped (tdata ts) = true := by
  unfold SeqAt.shaped
  rw [Bool.and_eq_true]
  have h := depth_strs ts
  exact ⟨lay_strs fun z hz => nm_ok (ok.nm z hz), decide_eq_true (by simp only [tdata, PyData.depth]; omega)⟩
theorem lay_rules {ts : List Str} (ok : TasksOk ts) : ∀ {ls : List (List Str)}, (∀ l ∈ ls, RuleOk ts l) → PyData.canLayAll0 (ls.map rdata) = true
  | [], _ => rfl
  | l :: r, h => by
    show (PyData.canLayAll0 (l.map PyData.str) && PyData.canLayAll0 (r.map rdata)) = true
    rw [lay_strs (rule_ok ok (h l List.mem_cons_self)), lay_rules ok fun z hz => h z (List.mem_cons_of_mem _ hz)]
    rfl
theorem depth_rules : ∀ (ls : List (List Str)), PyData.depthAll (ls.map rdata) ≤ 2
  | [] => by simp [PyData.depthAll]
  | l :: r => by
    have h1 := depth_rules r
    have h2 := depth_strs l
    show PyData.depthAll (PyData.tuple (l.map PyData.str) :: r.map rdata) ≤ 2
    simp only [PyData.depthAll, PyData.depth]
    omega
theorem rsdata_ok {ts : List Str} (ok : TasksOk ts) {ls : List (List Str)} (h : ∀ l ∈ ls, RuleOk ts l) : SeqAt.shaped (rsdata ls) = true := by
  unfold SeqAt.shaped
  rw [Bool.and_eq_true]
  have h2 := depth_rules ls
  exact ⟨lay_rules ok h, decide_eq_true (by simp only [rsdata, PyData.depth]; omega)⟩
theorem Rls.dp {ts : List Str} {H : Hp} : ∀ {as : List Addr} {ls : List (List Str)}, Rls ts H as ls → DpAll K H (as.map V.ref) (ls.map rdata)
  | _, _, .nil => .nil
  | _, _, .cons h _ r => .cons (.tup (.of h) dp_strs) r.dp
theorem Rls.all {ts : List Str} {H : Hp} : ∀ {as : List Addr} {ls : List (List Str)}, Rls ts H as ls → ∀ l ∈ ls, RuleOk ts l
  | _, _, .nil, l, h => absurd h List.not_mem_nil
  | _, _, .cons _ n r, l, h => by
    rcases List.mem_cons.mp h with e | h
    · rw [e]; exact n
    · exact r.all l h
/-- the rules ls stand in the list r -/
def Rl (ts : List Str) (H : Hp) (d g r : Addr) (ls : List (List Str)) : Prop := ∃ as, Lat H d g r (as.map V.ref) ∧ Rls ts H as ls
theorem Rl.keep {ts : List Str} {H H' : Hp} {d g r : Addr} {ls : List (List Str)} (h : Rl ts H d g r ls) (hD : Deck H d g) (k : Kd d g H H') : Rl ts H' d g r ls := by
  obtain ⟨as, h1, h2⟩ := h
  exact ⟨as, h1.keep k, h2.keep (Kd.tk k hD)⟩
/-- a book stands at b -/
def Bk (C : Addr) (H : Hp) (d g b : Addr) (ts : List Str) (ls : List (List Str)) : Prop := ∃ dx t r, H b = some (.ins C dx (fl t r)) ∧ Lat H d g t (ts.map V.str) ∧ Rl ts H d g r ls
theorem Bk.keep {C : Addr} {ts : List Str} {H H' : Hp} {d g b : Addr} {ls : List (List Str)} (h : Bk C H d g b ts ls) (hD : Deck H d g) (k : Kd d g H H') : Bk C H' d g b ts ls := by
  obtain ⟨dx, t, r, h1, h2, h3⟩ := h
  obtain ⟨gs, a, m, e1, e2, _⟩ := id hD
  exact ⟨dx, t, r, k _ _ h1 (ne_of h1 e1 (by intro z; cases z)) (ne_of h1 e2 (by intro z; cases z)), h2.keep k, h3.keep hD k⟩
theorem small_log2 {m : Int} (h : m.natAbs < 2048) : m.natAbs.log2 < 9000 := by
  have h1 : m.natAbs.log2 < 11 := PySem.Flt.log2_lt_of (by decide) h
  omega
theorem iteEq {x : Bool} {A B : Prop} (h : x = true) (hB : B) : if (!x) = true then A else B := by
  rw [h]
  exact iteF hB
theorem small_of {n : Nat} (h : n ≤ 5000) : n < sizeLine := Nat.lt_of_le_of_lt h (by decide)
def sp_shows (K : PySem.W.Frag) (C : Addr) : Sp := fun vs H Q _ => ∃ (d g b t r : Addr) (ts : List Str) (ls : List (List Str)), vs = [.ref d, .ref b, .ref t, .ref r] ∧ Deck H d g ∧ Bk C H d g b ts ls ∧ Lat H d g t (ts.map V.str) ∧ Rl ts H d g r ls ∧ TasksOk ts ∧ ls.length ≤ 1000 ∧
  ∀ H', Std H H' d g → Q (.bl true) H'
theorem ok_law_shows (T : Tx K w mg) : FnOk P w K mg base CX0 3 T.f_law_shows T.d_law_shows ["deck", "book", "task_list", "rule_list"] (sp_shows K T.C_Book) := by
  refine T.F_law_shows.ok sc_law_shows (fun vs H Q E h => ?_) (fun cdv A outer s H vs Q E hr h => ?_)
  · obtain ⟨d, g, b, t, r, ts, ls, rfl, _⟩ := h
    rfl
  · obtain ⟨d, g, b, t, r, ts, ls, rfl, hD, hB, lt, hR, ok, few, k⟩ := h
    refine ⟨_,
    (pss_cons
      (ps_for PassesOwn.never rfl (pi_list (pe_call (ok_law_order T) hr (by rfl) T.g_law_order T.F_law_order.kp T.b_law_order .nil pass0 (pa_cons (pv 0) (pa_cons pe_int pa_nil)))) (pg_name (i := 4) sc_law_shows.nd rfl (.inl rfl))
        (C8.pss_cut
          (ps_if (pt_cmpR op_eq (pv 4) pe_int (nomark _))
            (pss_cons
              (ps_set (i := 5) sc_law_shows.nd rfl (.inl rfl) (pe_prop (pv 1) T.cl_Book T.pr_Book_tasks (ok_Book_tasks T) hr T.b_Book_tasks .nil pass0 (by rfl)))
            (pss_cons
              (ps_if (PW.pt (pw_or (pt_not (pt_val (pe_callB call_isi (by rfl) T.m_isinstance (by decide +kernel) (pa_cons (pv 5) (pa_cons (pe_bltn (v := .ty "list") (by rfl) T.m_list (by decide +kernel) rfl) pa_nil))))) (pw_or (pt_cmpR (op_neD hr.units) (pv 5) (pv 2) (nomark _)) (pw_or1 (pt_not (pt_val (pe_callB (cr_all rfl) (by rfl) T.m_all (by decide +kernel) (pa_cons (pe_lc (own := [("name", 7)]) (g := gName 7) rfl sc_law_shows.nd (pi_list (pv 5)) (blkOk_by (N := ["deck", "book", "task_list", "rule_list", "at", "told", "many", "name", "rule"]) (sc := defScope s_law_shows) (own := [("name", 7)]) (by decide +kernel)) (fun _ _ _ _ _ => (pg_name (i := 7) sc_law_shows.nd rfl (.inl rfl))) (fun _ _ _ _ _ => pts_nil) (fun _ _ _ _ _ => (pe_callB (id := "isinstance") (r := rIsi K) call_isi (by rfl) T.m_isinstance (by decide +kernel) (pa_cons (pv 7) (pa_cons (pe_bltn (v := .ty "str") (by rfl) T.m_str (by decide +kernel) rfl) pa_nil))))) pa_nil))))))))
                (pss_one
                  (ps_ret pe_bl))
                pss_nil)
            (pss_cons
              (ps_asg pe_str (pg_sub (pv 5) (pe_call (ok_law_draw T) (hr.mono (by decide)) (by rfl) T.g_law_draw T.F_law_draw.kp T.b_law_draw .nil pass0 (pa_cons (pv 0) (pa_cons (pe_callB call_len_seq (by rfl) T.m_len (by decide +kernel) (pa_cons (pv 5) pa_nil)) pa_nil))) set_list))
            (pss_one
              (ps_expr (pe_bm PySem.F.plainAttrs_list PySem.F.slot_list_append PySem.F.type_list_append mt_append (pv 5) (pa_cons pe_str pa_nil)))))))
            pss_nil)
        (C8.pss_cut
          (ps_if (pt_cmpR op_eq (pv 4) pe_int (nomark _))
            (pss_cons
              (ps_set (i := 5) sc_law_shows.nd rfl (.inl rfl) (pe_prop (pv 1) T.cl_Book T.pr_Book_rules (ok_Book_rules T) hr T.b_Book_rules .nil pass0 (by rfl)))
            (pss_cons
              (ps_if (PW.pt (pw_or (pt_not (pt_val (pe_callB call_isi (by rfl) T.m_isinstance (by decide +kernel) (pa_cons (pv 5) (pa_cons (pe_bltn (v := .ty "list") (by rfl) T.m_list (by decide +kernel) rfl) pa_nil))))) (pw_or (pt_cmpR (op_neD hr.units) (pv 5) (pv 3) (nomark _)) (pw_or1 (pt_not (pt_val (pe_callB (cr_all rfl) (by rfl) T.m_all (by decide +kernel) (pa_cons (pe_lc (own := [("rule", 8)]) (g := gName 8) rfl sc_law_shows.nd (pi_list (pv 5)) (blkOk_by (N := ["deck", "book", "task_list", "rule_list", "at", "told", "many", "name", "rule"]) (sc := defScope s_law_shows) (own := [("rule", 8)]) (by decide +kernel)) (fun _ _ _ _ _ => (pg_name (i := 8) sc_law_shows.nd rfl (.inl rfl))) (fun _ _ _ _ _ => pts_nil) (fun _ _ _ _ _ => (pe_callB (id := "isinstance") (r := rIsi K) call_isi (by rfl) T.m_isinstance (by decide +kernel) (pa_cons (pv 8) (pa_cons (pe_bltn (v := .ty "tuple") (by rfl) T.m_tuple (by decide +kernel) rfl) pa_nil))))) pa_nil))))))))
                (pss_one
                  (ps_ret pe_bl))
                pss_nil)
            (pss_cons
              (ps_expr (pe_bm PySem.F.plainAttrs_list PySem.F.slot_list_insert PySem.F.type_list_insert mt_insert (pv 5) (pa_cons (pe_call (ok_law_draw T) (hr.mono (by decide)) (by rfl) T.g_law_draw T.F_law_draw.kp T.b_law_draw .nil pass0 (pa_cons (pv 0) (pa_cons (pe_op op_add (pe_callB call_len_seq (by rfl) T.m_len (by decide +kernel) (pa_cons (pv 5) pa_nil)) pe_int) pa_nil))) (pa_cons (pe_tup (pa_cons pe_str (pa_cons pe_str pa_nil))) pa_nil))))
            (pss_one
              (ps_expr (pe_bm0 PySem.F.plainAttrs_list PySem.F.slot_list_reverse PySem.F.type_list_reverse mt_reverse (pv 5)))))))
            pss_nil)
        (pss_one
          (ps_if (pt_cmpR op_eq (pv 4) pe_int (nomark _))
            (pss_cons
              (ps_set (i := 6) sc_law_shows.nd rfl (.inl rfl) (pe_callB (call_lenOwn T.cl_Book T.me_Book_len (ok_Book_len T) hr T.b_Book_len) (by rfl) T.m_len (by decide +kernel) (pa_cons (pv 1) pa_nil)))
            (pss_one
              (ps_if (pt_cmpR op_ne (pv 6) (pe_callB call_len_seq (by rfl) T.m_len (by decide +kernel) (pa_cons (pv 3) pa_nil)) (nomark _))
                (pss_one
                  (ps_ret pe_bl))
                pss_nil)))
            pss_nil)))))
    (pss_one
      (ps_ret pe_bl))), ?_⟩
    have tfew := ok.few
    refine ⟨_, rfl, d, g, 3, rfl, hD, by decide, fun p os H1 s1 fp ep n1 n2 oin ol ond => ⟨_, rfl, ⟨_, .of ep⟩, ?_⟩⟩
    refine for_list (xs := os.map V.int) (fun i σ H' => Std H1 H' d g ∧ ∃ x4 x5 x6, σ = [some (.ref d), some (.ref b), some (.ref t), some (.ref r), x4, x5, x6, none, none]) ⟨Std.refl s1.dk, none, none, none, rfl⟩ (fun i σ H' _ h => .of (h.1.kd _ _ ep n1 n2)) ?_ ?_
    · rintro i v σ H2 hi ⟨s2, x4, x5, x6, rfl⟩
      rw [List.getElem?_map] at hi
      obtain ⟨o, _, rfl⟩ := Option.map_eq_some_iff.mp hi
      have s02 := s1.trans s2
      -- the tasks
      refine ⟨fun σ' H' => Std H1 H' d g ∧ ∃ x5, σ' = [some (.ref d), some (.ref b), some (.ref t), some (.ref r), some (.int o), x5, x6, none, none], ⟨_, rfl, rfl, _, rfl, ite2 (fun c => ?_) (fun c => ⟨s2, _, rfl⟩)⟩, ?_⟩
      · obtain ⟨dx, bt, br, hb, hbt, hbr⟩ := hB.keep hD s02.kd
        have lt2 := lt.keep s02.kd
        refine ⟨_, rfl, b, dx, _, rfl, hb, b, dx, bt, br, bt, _, rfl, hb, fl_t bt br, .of hbt.at_, fun U hU => ?_⟩
        have dU := s2.dk.new hU
        have fU := s2.free hU
        have sU := same_upd (o := .lst (ts.map V.str)) hU
        have eU : (upd H2 U (.lst (ts.map V.str))) U = some (.lst (ts.map V.str)) := upd_same
        have s3 := s2.new (o := .lst (ts.map V.str)) hU
        have lt3 := lt2.keep (Same.kd sU)
        generalize upd H2 U (.lst (ts.map V.str)) = H3 at eU s3 lt3 ⊢
        refine ⟨_, rfl, _, _, _, _, true, rfl, .ty "list", .base (.lst eU), kit_ty (by decide +kernel), _, rfl, _, rfl, _, rfl, tdata ts, tdata ts, .lst (.of eU) dp_strs, .lst (.of lt3.at_) dp_strs, tdata_ok ok, tdata_ok ok, _, rfl, iteEq (SeqAt.eqv_refl _ (SeqAt.canLay_of_shaped (tdata_ok ok))) ?_⟩
        refine ⟨_, rfl, U, rfl, ⟨_, .of eU⟩, fun D hDn => ?_⟩
        refine lc_list (xs := ts.map V.str) (fun i H' => i ≤ ts.length ∧ H' D = some (.lst ((List.replicate i true).map V.bl)) ∧ Same H3 H') ⟨Nat.zero_le _, upd_same, same_upd hDn⟩ (fun i H' _ h => .of (h.2.2 _ _ eU)) ?_ ?_
        · rintro i v H4 hi ⟨il, eD, sm⟩
          have hil := (List.getElem?_eq_some_iff.mp hi).1
          rw [List.length_map] at hil
          rw [List.getElem?_map] at hi
          obtain ⟨z, _, rfl⟩ := Option.map_eq_some_iff.mp hi
          refine ⟨rfl, _, rfl, _, _, _, _, true, rfl, .ty "str", .base (.str z), kit_ty (by decide +kernel), (List.replicate i true).map V.bl, eD, ?_, hil, ?_, fun b o e => ?_⟩
          · rw [List.length_map, List.length_replicate]; exact small1000 (by omega)
          · rw [upd_same, List.replicate_succ', List.map_append]; rfl
          · rw [upd_ne (ne_of_none e hDn)]; exact sm b o e
        · rintro H4 ⟨_, eD, sm⟩
          refine ⟨D, List.replicate (ts.map V.str).length true, rfl, .of eD, _, rfl, iteEq (all_true _) ?_⟩
          have s4 := s3.draw (s3.dk.same sm) (Same.kd sm)
          have eU4 := sm _ _ eU
          -- told[..] = 'other', told.append('more')
          refine ⟨_, rfl, _, rfl, _, rfl, U, _, rfl, .inl (.of eU4), d, g, _, rfl, s4.dk, ?_, ?_, fun q H5 q0 q1 hD5 k5 => ?_⟩
          · rw [List.length_map]
            have := List.length_pos_iff.mpr ok.ne
            omega
          · rw [List.length_map]; exact small_log (by omega)
          rw [List.length_map] at q1
          obtain ⟨q, rfl⟩ := Int.eq_ofNat_of_zero_le q0
          have eU5 := k5 _ _ eU4 dU.1 dU.2
          have s5 := s4.draw hD5 k5
          refine ⟨U, ts.map V.str, _, q, rfl, rfl, eU5, ixN_nat (by rw [List.length_map]; omega), ?_⟩
          refine ⟨_, rfl, .inl ⟨rfl, _, .of upd_same⟩, U, _, _, rfl, rfl, upd_same, ?_, ?_, _, rfl⟩
          · rw [List.length_set, List.length_map]; exact small1000 (by omega)
          · exact (s5.mut fU dU.1 dU.2).mut fU dU.1 dU.2
      clear s02 s2
      clear x5 x4 H2
      rintro σ H2 ⟨s2, x5, rfl⟩
      have s02 := s1.trans s2
      -- the rules
      refine ⟨fun σ' H' => Std H1 H' d g ∧ ∃ x5, σ' = [some (.ref d), some (.ref b), some (.ref t), some (.ref r), some (.int o), x5, x6, none, none], ⟨_, rfl, rfl, _, rfl, ite2 (fun c => ?_) (fun c => ⟨s2, _, rfl⟩)⟩, ?_⟩
      · obtain ⟨dx, bt, br, hb, hbt, as, hbr, rls⟩ := hB.keep hD s02.kd
        obtain ⟨as2, lr2, rls2⟩ := hR.keep hD s02.kd
        have alen := rls.len
        refine ⟨_, rfl, b, dx, _, rfl, hb, b, dx, bt, br, br, _, rfl, hb, fl_r bt br, .of hbr.at_, fun U hU => ?_⟩
        have dU := s2.dk.new hU
        have fU := s2.free hU
        have sU := same_upd (o := .lst (as.map V.ref)) hU
        have eU : (upd H2 U (.lst (as.map V.ref))) U = some (.lst (as.map V.ref)) := upd_same
        have s3 := s2.new (o := .lst (as.map V.ref)) hU
        have lr3 := lr2.keep (Same.kd sU)
        have rls3 := rls.keep (Same.tk sU)
        have rls23 := rls2.keep (Same.tk sU)
        generalize upd H2 U (.lst (as.map V.ref)) = H3 at eU s3 lr3 rls3 rls23 ⊢
        have okd := rsdata_ok ok rls3.all
        refine ⟨_, rfl, _, _, _, _, true, rfl, .ty "list", .base (.lst eU), kit_ty (by decide +kernel), _, rfl, _, rfl, _, rfl, rsdata ls, rsdata ls, .lst (.of eU) rls3.dp, .lst (.of lr3.at_) rls23.dp, okd, okd, _, rfl, iteEq (SeqAt.eqv_refl _ (SeqAt.canLay_of_shaped okd)) ?_⟩
        refine ⟨_, rfl, U, rfl, ⟨_, .of eU⟩, fun D hDn => ?_⟩
        refine lc_list (xs := as.map V.ref) (fun i H' => i ≤ as.length ∧ H' D = some (.lst ((List.replicate i true).map V.bl)) ∧ Same H3 H') ⟨Nat.zero_le _, upd_same, same_upd hDn⟩ (fun i H' _ h => .of (h.2.2 _ _ eU)) ?_ ?_
        · rintro i v H4 hi ⟨il, eD, sm⟩
          have hil := (List.getElem?_eq_some_iff.mp hi).1
          rw [List.length_map] at hil
          rw [List.getElem?_map] at hi
          obtain ⟨a, ha, rfl⟩ := Option.map_eq_some_iff.mp hi
          obtain ⟨l, _, ea, _⟩ := rls3.at ha
          refine ⟨rfl, _, rfl, _, _, _, _, true, rfl, .ty "tuple", .base (.tup (sm _ _ ea)), kit_ty (by decide +kernel), (List.replicate i true).map V.bl, eD, ?_, hil, ?_, fun b o e => ?_⟩
          · rw [List.length_map, List.length_replicate]; exact small1000 (by omega)
          · rw [upd_same, List.replicate_succ', List.map_append]; rfl
          · rw [upd_ne (ne_of_none e hDn)]; exact sm b o e
        · rintro H4 ⟨_, eD, sm⟩
          refine ⟨D, List.replicate (as.map V.ref).length true, rfl, .of eD, _, rfl, iteEq (all_true _) ?_⟩
          have s4 := s3.draw (s3.dk.same sm) (Same.kd sm)
          have eU4 := sm _ _ eU
          -- told.insert(..), told.reverse()
          refine ⟨_, rfl, .inl ⟨rfl, _, .of eU4⟩, _, rfl, _, rfl, U, _, rfl, .inl (.of eU4), _, _, rfl, rfl, d, g, _, rfl, s4.dk, ?_, ?_, fun q H5 q0 q1 hD5 k5 => ⟨(by show 2 ≤ sizeLine; decide), fun N hN => ?_⟩⟩
          · show (0 : Int) < ((as.map V.ref).length : Int) + 1
            omega
          · refine small_log2 ?_
            show (((as.map V.ref).length : Int) + 1).natAbs < 2048
            rw [List.length_map]; omega
          have eU5 := k5 _ _ eU4 dU.1 dU.2
          have s5 := s4.draw hD5 k5
          have eU6 := same_upd (o := .tup [.str ("first" : Str), .str ("more" : Str)]) hN _ _ eU5
          have s6 := s5.new (o := .tup [.str ("first" : Str), .str ("more" : Str)]) hN
          refine ⟨U, as.map V.ref, q, .ref N, rfl, rfl, eU6, ?_, q0, ?_, ?_⟩
          · rw [List.length_map]; exact small1000 (by omega)
          · have : q < ((as.map V.ref).length : Int) + 1 := q1
            rw [List.length_map] at this
            omega
          refine ⟨_, rfl, .inl ⟨rfl, _, .of upd_same⟩, U, _, rfl, rfl, upd_same, ?_, _, rfl⟩
          exact (s6.mut fU dU.1 dU.2).mut fU dU.1 dU.2
      clear s02 s2
      clear x5 H2
      rintro σ H2 ⟨s2, x5, rfl⟩
      have s02 := s1.trans s2
      -- how many
      refine ⟨_, rfl, rfl, _, rfl, ite2 (fun c => ?_) (fun c => ⟨s2, _, _, _, rfl⟩)⟩
      obtain ⟨dx, bt, br, hb, hbt, as, hbr, rls⟩ := hB.keep hD s02.kd
      obtain ⟨as2, lr2, rls2⟩ := hR.keep hD s02.kd
      refine ⟨_, rfl, b, dx, _, rfl, hb, b, dx, bt, br, _, rfl, hb, .of hbr.at_, _, rfl, by omega, ?_, ?_⟩
      · rw [List.length_map, rls.len]; omega
      refine ⟨_, rfl, _, rfl, r, _, rfl, .inl (.of lr2.at_), rfl, _, rfl, iteNS ?_ ⟨s2, _, _, _, rfl⟩⟩
      rw [List.length_map, List.length_map, rls.len, rls2.len]
    · rintro σ H2 ⟨s2, _⟩
      exact k H2 (s1.trans s2)
/-! ### which days keep a rule -/
def look : List Str → List Int → Str → Int
  | t :: ts, d :: ds, z => if t = z then d else look ts ds z
  | _, _, _ => 0
def keptB (l : List Str) (n : Int) (f : Str → Int) : Bool :=
  if l.getD 0 "" = "first" then decide (f (l.getD 1 "") = 1) else if l.getD 0 "" = "last" then decide (f (l.getD 1 "") = n) else
  if l.getD 0 "" = "before" then decide (0 < f (l.getD 2 "") - f (l.getD 1 "")) else if l.getD 0 "" = "upto" then decide (0 ≤ f (l.getD 2 "") - f (l.getD 1 "")) else
  if l.getD 0 "" = "same" then decide (f (l.getD 2 "") - f (l.getD 1 "") = 0) else if l.getD 0 "" = "apart" then !decide (f (l.getD 2 "") - f (l.getD 1 "") = 0) else
  if l.getD 0 "" = "far" then decide (2 ≤ f (l.getD 2 "") - f (l.getD 1 "")) else decide (f (l.getD 2 "") - f (l.getD 1 "") = 1)
theorem dI (a b : Int) : decide (V.int a = V.int b) = decide (a = b) := by
  by_cases h : a = b
  · rw [h, decide_eq_true rfl, decide_eq_true rfl]
  · rw [decide_eq_false h, decide_eq_false (fun z => h (V.int.inj z))]
theorem dS {a b : Str} (c : decide (V.str a = V.str b) = true) : a = b := V.str.inj (of_decide_eq_true c)
theorem dSN {a b : Str} (c : ¬ decide (V.str a = V.str b) = true) : ¬ a = b := fun z => c (decide_eq_true (congrArg V.str z))
theorem two_is {k : Str} (h : k ∈ two) : k = "first" ∨ k = "last" := by simpa [two] using h
theorem six_not {k : Str} (h : k ∈ six) : ¬ k = "first" ∧ ¬ k = "last" := by
  have h2 : ∀ k ∈ six, ¬ k = "first" ∧ ¬ k = "last" := by decide +kernel
  exact h2 k h
theorem merge_nodup : ∀ (more acc : List (Key × V)), (more.map (·.1)).Nodup → (∀ kv ∈ more, valV acc kv.1 = none) → mergeK acc more = acc ++ more
  | [], acc, _, _ => (List.append_nil acc).symm
  | kv :: r, acc, nd, h => by
    rw [List.map_cons] at nd
    have nd2 := List.nodup_cons.mp nd
    show mergeK (putK acc kv.1 kv.2) r = acc ++ kv :: r
    rw [putK_new _ (h kv List.mem_cons_self), merge_nodup r _ nd2.2 fun q hq => ?_, List.append_assoc]
    · rfl
    · rw [valV_snoc _ _ _ _ (h kv List.mem_cons_self), if_neg (fun z => nd2.1 (by rw [← z]; exact List.mem_map_of_mem hq))]
      exact h q (List.mem_cons_of_mem _ hq)
theorem valV_zip {z : Str} : ∀ {ts : List Str} {ds : List Int}, ts.length = ds.length → z ∈ ts → valV ((ts.map (Sum.inr : Str → Key)).zip (ds.map V.int)) (Sum.inr z) = some (V.int (look ts ds z))
  | [], _, _, h => absurd h List.not_mem_nil
  | _ :: _, [], h, _ => by cases h
  | t :: ts, d :: ds, hl, h => by
    show valV ((Sum.inr t, V.int d) :: (ts.map Sum.inr).zip (ds.map V.int)) (Sum.inr z) = _
    by_cases e : t = z
    · rw [valV_pos (p := ((Sum.inr t : Key), V.int d)) (congrArg Sum.inr e)]
      unfold look
      rw [if_pos e]
    · rw [valV_neg (p := ((Sum.inr t : Key), V.int d)) (fun x => e (Sum.inr.inj x))]
      unfold look
      rw [if_neg e]
      refine valV_zip (Nat.succ.inj hl) ?_
      rcases List.mem_cons.mp h with x | x
      · exact absurd x.symm e
      · exact x
theorem valV_days {z : Str} {ts : List Str} {ds : List Int} (nd : ts.Nodup) (hl : ts.length = ds.length) (h : z ∈ ts) : valV (mergeK [] ((ts.map (Sum.inr : Str → Key)).zip (ds.map V.int))) (Sum.inr z) = some (V.int (look ts ds z)) := by
  rw [merge_nodup _ [] ?_ (fun _ _ => rfl), List.nil_append]
  · exact valV_zip hl h
  · rw [List.map_fst_zip (by rw [List.length_map, List.length_map]; omega)]
    unfold List.Nodup
    rw [List.pairwise_map]
    exact nd.imp fun h z => h (Sum.inr.inj z)
def sp_kept (K : PySem.W.Frag) : Sp := fun vs H Q _ => ∃ (a D : Addr) (n : Int) (ts l : List Str) (kvs : List (Key × V)) (f : Str → Int), vs = [.ref a, .int n, .ref D] ∧ SqT K H a (l.map V.str) ∧ RuleOk ts l ∧ H D = some (.dK kvs) ∧ (∀ z ∈ ts, valV kvs (Sum.inr z) = some (V.int (f z))) ∧ Q (.bl (keptB l n f)) H
theorem ok_is_kept (T : Tx K w mg) : FnOk P w K mg base CX0 1 T.f_is_kept T.d_is_kept ["rule", "n", "days"] (sp_kept K) := by
  refine T.F_is_kept.ok sc_is_kept (fun vs H Q E h => ?_) (fun cdv A outer s H vs Q E hr h => ?_)
  · obtain ⟨a, D, n, ts, l, kvs, f, rfl, _⟩ := h
    rfl
  · obtain ⟨a, D, n, ts, l, kvs, f, rfl, hA, ok, hD, hv, k⟩ := h
    refine ⟨_,
    (pss_cons
      (ps_set (i := 3) sc_is_kept.nd rfl (.inl rfl) (pe_ix ix_tup (pv 0) pe_int (fun _ _ => rfl)))
    (pss_cons
      (ps_set (i := 4) sc_is_kept.nd rfl (.inl rfl) (pe_dget (hu_of hr) (pv 2) (pe_ix ix_tup (pv 0) pe_int (fun _ _ => rfl)) (fun _ _ => rfl)))
    (pss_cons
      (ps_if (pt_cmpR op_eq (pv 3) pe_str (nomark _))
        (pss_one
          (ps_ret (pe_cmpR op_eq (pv 4) pe_int (nomark _))))
        pss_nil)
    (pss_cons
      (ps_if (pt_cmpR op_eq (pv 3) pe_str (nomark _))
        (pss_one
          (ps_ret (pe_cmpR op_eq (pv 4) (pv 1) (nomark _))))
        pss_nil)
    (pss_cons
      (ps_set (i := 5) sc_is_kept.nd rfl (.inl rfl) (pe_op op_sub (pe_dget (hu_of hr) (pv 2) (pe_ix ix_tup (pv 0) pe_int (fun _ _ => rfl)) (fun _ _ => rfl)) (pv 4)))
    (pss_cons
      (ps_if (pt_cmpR op_eq (pv 3) pe_str (nomark _))
        (pss_one
          (ps_ret (pe_cmpR op_gt (pv 5) pe_int (nomark _))))
        pss_nil)
    (pss_cons
      (ps_if (pt_cmpR op_eq (pv 3) pe_str (nomark _))
        (pss_one
          (ps_ret (pe_cmpR op_ge (pv 5) pe_int (nomark _))))
        pss_nil)
    (pss_cons
      (ps_if (pt_cmpR op_eq (pv 3) pe_str (nomark _))
        (pss_one
          (ps_ret (pe_cmpR op_eq (pv 5) pe_int (nomark _))))
        pss_nil)
    (pss_cons
      (ps_if (pt_cmpR op_eq (pv 3) pe_str (nomark _))
        (pss_one
          (ps_ret (pe_cmpR op_ne (pv 5) pe_int (nomark _))))
        pss_nil)
    (pss_cons
      (ps_if (pt_cmpR op_eq (pv 3) pe_str (nomark _))
        (pss_one
          (ps_ret (pe_cmpR op_ge (pv 5) pe_int (nomark _))))
        pss_nil)
    (pss_one
      (ps_ret (pe_cmpR op_eq (pv 5) pe_int (nomark _)))))))))))))), ?_⟩
    have get : ∀ z : Str, z ∈ ts → DGet H D (V.str z) (some (V.int (f z))) := fun z h => by
      have := DGet.k (k := (Sum.inr z : Key)) hD
      rw [hv z h] at this
      exact this
    have as : ∀ {b b' : Bool}, b = b' → Q (.bl b) H → Q (.bl b') H := fun e h => e ▸ h
    rcases ok with ⟨kd, x, hk, hx, rfl⟩ | ⟨kd, x, y, hk, hx, hy, _, rfl⟩
    · refine ⟨_, rfl, a, _, _, _, rfl, rfl, hA, atI_nat (j := 0) rfl, _, rfl, _, rfl, a, _, _, _, rfl, rfl, hA, atI_nat (j := 1) rfl, D, _, rfl, get _ hx, ?_⟩
      refine ⟨_, rfl, rfl, _, rfl, ite2 (fun c => ?_) (fun c => ?_)⟩
      · refine ⟨_, rfl, rfl, as ?_ k⟩
        rw [dI]
        exact if_pos (dS c)
      · have c1 := dSN c
        have c2 : kd = "last" := (two_is hk).resolve_left c1
        refine ⟨_, rfl, rfl, _, rfl, iteD (congrArg V.str c2) ⟨_, rfl, _, rfl, rfl, as ?_ k⟩⟩
        rw [dI]
        exact (if_neg c1).trans (if_pos c2)
    · obtain ⟨n1, n2⟩ := six_not hk
      refine ⟨_, rfl, a, _, _, _, rfl, rfl, hA, atI_nat (j := 0) rfl, _, rfl, _, rfl, a, _, _, _, rfl, rfl, hA, atI_nat (j := 1) rfl, D, _, rfl, get _ hx, ?_⟩
      refine ⟨_, rfl, rfl, _, rfl, iteND (fun z => n1 (V.str.inj z)) ⟨_, rfl, rfl, _, rfl, iteND (fun z => n2 (V.str.inj z)) ?_⟩⟩
      refine ⟨_, rfl, _, rfl, a, _, _, _, rfl, rfl, hA, atI_nat (j := 2) rfl, D, _, rfl, get _ hy, _, rfl, _, _, rfl, rfl, ?_⟩
      have k' : Q (.bl (if kd = "before" then decide (0 < f y - f x) else if kd = "upto" then decide (0 ≤ f y - f x) else if kd = "same" then decide (f y - f x = 0) else if kd = "apart" then !decide (f y - f x = 0) else if kd = "far" then decide (2 ≤ f y - f x) else decide (f y - f x = 1))) H :=
        as ((if_neg n1).trans (if_neg n2)) k
      refine ⟨_, rfl, rfl, _, rfl, ite2 (fun c => ⟨_, rfl, _, _, rfl, rfl, as (if_pos (dS c)) k'⟩) (fun c => ?_)⟩
      have k' := as (if_neg (dSN c)) k'
      refine ⟨_, rfl, rfl, _, rfl, ite2 (fun c => ⟨_, rfl, _, _, rfl, rfl, as (if_pos (dS c)) k'⟩) (fun c => ?_)⟩
      have k' := as (if_neg (dSN c)) k'
      refine ⟨_, rfl, rfl, _, rfl, ite2 (fun c => ⟨_, rfl, rfl, as ((if_pos (dS c)).trans (dI _ _).symm) k'⟩) (fun c => ?_)⟩
      have k' := as (if_neg (dSN c)) k'
      refine ⟨_, rfl, rfl, _, rfl, ite2 (fun c => ⟨_, rfl, rfl, as ((if_pos (dS c)).trans (congrArg Bool.not (dI _ _).symm)) k'⟩) (fun c => ?_)⟩
      have k' := as (if_neg (dSN c)) k'
      refine ⟨_, rfl, rfl, _, rfl, ite2 (fun c => ⟨_, rfl, _, _, rfl, rfl, as (if_pos (dS c)) k'⟩) (fun c => ?_)⟩
      have k' := as (if_neg (dSN c)) k'
      exact ⟨_, rfl, rfl, as (dI _ _).symm k'⟩
/-- the days are a plan of the tasks and rules -/
def planB (ts : List Str) (ls : List (List Str)) (n : Int) (ds : List Int) : Bool :=
  decide (ds.length = ts.length) && ds.all (fun d => decide (1 ≤ d) && decide (d ≤ n)) && ls.all fun l => keptB l n (look ts ds)
/-- a book at b: its data anywhere -/
def BkR (K : PySem.W.Frag) (C : Addr) (H : Hp) (b : Addr) (ts : List Str) (ls : List (List Str)) : Prop := ∃ (dx t r : Addr) (as : List Addr), H b = some (.ins C dx (fl t r)) ∧ H t = some (.lst (ts.map V.str)) ∧ H r = some (.lst (as.map V.ref)) ∧ Rls ts H as ls
def sp_keeps (K : PySem.W.Frag) (C : Addr) : Sp := fun vs H Q _ => ∃ (b p : Addr) (n : Int) (ts : List Str) (ls : List (List Str)) (ds : List Int), vs = [.ref b, .int n, .ref p] ∧ BkR K C H b ts ls ∧ SqL K H p (ds.map V.int) ∧ ts.Nodup ∧ ts.length ≤ 1000 ∧ ls.length ≤ 1000 ∧ ds.length ≤ 5000 ∧ ∀ H', Same H H' → Q (.bl (planB ts ls n ds)) H'
theorem all_map {α : Type} (p : α → Bool) (xs : List α) : (xs.map p).all id = xs.all p := by
  induction xs with
  | nil => rfl
  | cons a r ih => rw [List.map_cons, List.all_cons, List.all_cons, ih]; rfl
theorem ok_Book_keeps (T : Tx K w mg) : FnOk P w K mg base CX0 2 T.f_Book_keeps T.d_Book_keeps ["self", "n", "plan"] (sp_keeps K T.C_Book) := by
  refine T.F_Book_keeps.ok sc_Book_keeps (fun vs H Q E h => ?_) (fun cdv A outer s H vs Q E hr h => ?_)
  · obtain ⟨b, p, n, ts, ls, ds, rfl, _⟩ := h
    rfl
  · obtain ⟨b, p, n, ts, ls, ds, rfl, ⟨dx, t, r, as, hb, ht, hr', rls⟩, hp, nd, f1, f2, f3, k⟩ := h
    refine ⟨_,
    (pss_cons
      (ps_if (PW.pt (pw_or (pt_cmpR op_ne (pe_callB call_len_seq (by rfl) T.m_len (by decide +kernel) (pa_cons (pv 2) pa_nil)) (pe_callB call_len_seq (by rfl) T.m_len (by decide +kernel) (pa_cons (pe_fld (pv 0) rfl) pa_nil)) (nomark _)) (pw_or1 (pt_not (pt_val (pe_callB (cr_all rfl) (by rfl) T.m_all (by decide +kernel) (pa_cons (pe_lc (own := [("day", 4)]) (g := gName 4) rfl sc_Book_keeps.nd (pi_list (pv 2)) (blkOk_by (N := ["self", "n", "plan", "days", "day", "rule"]) (sc := defScope s_Book_keeps) (own := [("day", 4)]) (by decide +kernel)) (fun _ _ _ _ _ => (pg_name (i := 4) sc_Book_keeps.nd rfl (.inl rfl))) (fun _ _ _ _ _ => pts_nil) (fun _ _ _ _ _ => (pe_chain op_le op_le pe_int (pv 4) (pv 1)))) pa_nil)))))))
        (pss_one
          (ps_ret pe_bl))
        pss_nil)
    (pss_cons
      (ps_set (i := 3) sc_Book_keeps.nd rfl (.inr rfl) (pe_dictZip rfl (by rfl) T.m_dict (by rfl) T.m_zip (pa_cons (pe_fld (pv 0) rfl) (pa_cons (pv 2) pa_nil))))
    (pss_one
      (ps_ret (pe_callB (cr_all rfl) (by rfl) T.m_all (by decide +kernel) (pa_cons (pe_lc (own := [("rule", 5)]) (g := gName 5) rfl sc_Book_keeps.nd (pi_list (pe_fld (pv 0) rfl)) (blkOk_by (N := ["self", "n", "plan", "days", "day", "rule"]) (sc := defScope s_Book_keeps) (own := [("rule", 5)]) (by decide +kernel)) (fun _ _ _ _ _ => (pg_name (i := 5) sc_Book_keeps.nd rfl (.inl rfl))) (fun _ _ _ _ _ => pts_nil) (fun _ _ _ _ _ => (pe_call (ok_is_kept T) hr (by rfl) T.g_is_kept T.F_is_kept.kp T.b_is_kept .nil pass0 (pa_cons (pv 5) (pa_cons (pv 1) (pa_cons (pv 3) pa_nil)))))) pa_nil)))))), ?_⟩
    have hu := hu_of hr
    refine ⟨_, rfl, p, _, rfl, .inl hp, _, rfl, b, T.C_Book, dx, _, _, rfl, hb, T.cl_Book, T.n_Book_tasks, fl_t t r, t, _, rfl, .inl (.of ht), rfl, _, rfl, ite2 (fun c => ?_) (fun c => ?_)⟩
    · have hne : ds.length ≠ ts.length := fun z => by
        rw [List.length_map, List.length_map, z, decide_eq_true rfl] at c
        exact Bool.false_ne_true c
      have k1 := k H (Same.refl H)
      have e : planB ts ls n ds = false := by
        unfold planB
        rw [decide_eq_false hne]
        rfl
      rw [e] at k1
      exact k1
    have hlen : ds.length = ts.length := by
      have h2 : decide (V.int (((ds.map V.int).length : Nat) : Int) = V.int (((ts.map V.str).length : Nat) : Int)) = true := by simpa using c
      have := V.int.inj (of_decide_eq_true h2)
      rw [List.length_map, List.length_map] at this
      omega
    refine ⟨_, rfl, p, rfl, ⟨_, hp⟩, fun D hD => ?_⟩
    refine lc_list (xs := ds.map V.int) (fun i H' => i ≤ ds.length ∧ H' D = some (.lst (((ds.take i).map fun d => decide (1 ≤ d) && decide (d ≤ n)).map V.bl)) ∧ Same H H') ⟨Nat.zero_le _, upd_same, same_upd hD⟩ (fun i H' _ h => h.2.2.seq hp) ?_ ?_
    · rintro i v H1 hi ⟨il, eD, sm⟩
      have hil := (List.getElem?_eq_some_iff.mp hi).1
      rw [List.length_map] at hil
      rw [List.getElem?_map] at hi
      obtain ⟨d, hd, rfl⟩ := Option.map_eq_some_iff.mp hi
      have room : ((((ds.take i).map fun d => decide (1 ≤ d) && decide (d ≤ n)).map V.bl)).length < sizeLine := by
        rw [List.length_map, List.length_map, List.length_take]
        exact Nat.lt_of_le_of_lt (show _ ≤ 5000 by omega) (by decide)
      have fin : ∀ b0 : Bool, b0 = (decide (1 ≤ d) && decide (d ≤ n)) → (i + 1 ≤ ds.length ∧ (upd H1 D (.lst ((((ds.take i).map fun d => decide (1 ≤ d) && decide (d ≤ n)).map V.bl) ++ [V.bl b0]))) D = some (.lst (((ds.take (i + 1)).map fun d => decide (1 ≤ d) && decide (d ≤ n)).map V.bl)) ∧ Same H (upd H1 D (.lst ((((ds.take i).map fun d => decide (1 ≤ d) && decide (d ≤ n)).map V.bl) ++ [V.bl b0])))) := fun b0 hb0 => by
        refine ⟨hil, ?_, fun b o e => ?_⟩
        · rw [upd_same, List.take_add_one, hd, List.map_append, List.map_append, hb0]
          rfl
        · rw [upd_ne (ne_of_none e hD)]
          exact sm b o e
      refine ⟨rfl, _, rfl, _, _, rfl, rfl, _, rfl, ite2 (fun c1 => ?_) (fun c1 => ?_)⟩
      · exact ⟨_, rfl, _, _, rfl, rfl, _, eD, room, fin _ (by rw [c1]; rfl)⟩
      · exact ⟨_, eD, room, fin false (by rw [Bool.eq_false_iff.mpr c1]; rfl)⟩
    · rintro H1 ⟨_, eD, sm⟩
      rw [List.length_map, List.take_length] at eD
      refine ⟨D, _, rfl, .of eD, _, rfl, ?_⟩
      rw [all_map]
      by_cases hall : ¬ (ds.all fun d => decide (1 ≤ d) && decide (d ≤ n)) = true
      · have hf := Bool.eq_false_iff.mpr hall
        rw [hf]
        refine iteT ?_
        have k1 := k H1 sm
        have e : planB ts ls n ds = false := by
          unfold planB
          rw [hf, Bool.and_false, Bool.false_and]
        rw [e] at k1
        exact k1
      · have hall := Classical.not_not.mp hall
        rw [hall]
        refine iteF ?_
        have hb1 := sm _ _ hb
        have ht1 := sm _ _ ht
        refine ⟨_, rfl, b, T.C_Book, dx, _, _, rfl, hb1, T.cl_Book, T.n_Book_tasks, fl_t t r, _, rfl, t, p, ts.map Sum.inr, ds.map V.int, rfl, ?_, sm.seq hp, ?_, fun M hM => ?_⟩
        · rw [List.map_map]
          exact .of ht1
        · rw [List.length_map, List.length_map, hlen]
        have sM := sm.trans (same_upd (o := .dK (mergeK [] ((ts.map (Sum.inr : Str → Key)).zip (ds.map V.int)))) hM)
        have eM : (upd H1 M (.dK (mergeK [] ((ts.map (Sum.inr : Str → Key)).zip (ds.map V.int))))) M = some (.dK (mergeK [] ((ts.map (Sum.inr : Str → Key)).zip (ds.map V.int)))) := upd_same
        generalize upd H1 M (.dK (mergeK [] ((ts.map (Sum.inr : Str → Key)).zip (ds.map V.int)))) = H2 at sM eM ⊢
        refine ⟨_, rfl, b, T.C_Book, dx, _, _, rfl, sM _ _ hb, T.cl_Book, T.n_Book_rules, fl_r t r, r, rfl, ⟨_, .of (sM _ _ hr')⟩, fun D2 hD2 => ?_⟩
        have alen := rls.len
        refine lc_list (xs := as.map V.ref) (fun i H' => H' D2 = some (.lst (((ls.take i).map fun l => keptB l n (look ts ds)).map V.bl)) ∧ Same H2 H') ⟨upd_same, same_upd hD2⟩ (fun i H' _ h => .of (h.2 _ _ (sM _ _ hr'))) ?_ ?_
        · rintro i v H3 hi ⟨eD2, s3⟩
          have hil := (List.getElem?_eq_some_iff.mp hi).1
          rw [List.length_map] at hil
          rw [List.getElem?_map] at hi
          obtain ⟨a, ha, rfl⟩ := Option.map_eq_some_iff.mp hi
          obtain ⟨l, hl, ea, rok⟩ := rls.at ha
          refine ⟨rfl, _, rfl, _, rfl, _, rfl, a, M, n, ts, l, _, look ts ds, rfl, .of (s3 _ _ (sM _ _ ea)), rok, s3 _ _ eM, fun z hz => valV_days nd hlen.symm hz, _, eD2, ?_, ?_, fun b o e => ?_⟩
          · rw [List.length_map, List.length_map, List.length_take]
            exact small1000 (by omega)
          · rw [upd_same, List.take_add_one, hl, List.map_append, List.map_append]
            rfl
          · rw [upd_ne (ne_of_none e hD2)]
            exact s3 b o e
        · rintro H3 ⟨eD2, s3⟩
          rw [List.length_map, alen, List.take_length] at eD2
          refine ⟨D2, _, rfl, .of eD2, ?_⟩
          rw [all_map]
          have k1 := k H3 (sM.trans s3)
          have e : planB ts ls n ds = ls.all fun l => keptB l n (look ts ds) := by
            unfold planB
            rw [hall, decide_eq_true hlen, Bool.true_and, Bool.true_and]
          rw [e] at k1
          exact k1
/-! ### numbers of days, days -/
def sp_great : Sp := fun vs H Q _ => ∃ (d g : Addr) (n : Int), vs = [.ref d, .int n] ∧ Deck H d g ∧ 0 < n ∧ ∀ r H', 0 ≤ r → r < n → Deck H' d g → Kd d g H H' → Q (.int r) H'
theorem ok_law_great (T : Tx K w mg) : FnOk P w K mg base CX0 2 T.f_law_great T.d_law_great ["deck", "many"] sp_great := by
  refine T.F_law_great.ok sc_law_great (fun vs H Q E h => ?_) (fun cdv A outer s H vs Q E hr h => ?_)
  · obtain ⟨d, g, n, rfl, _⟩ := h
    rfl
  · obtain ⟨d, g, n, rfl, hD, hn, k⟩ := h
    refine ⟨_,
    (pss_cons
      (ps_set (i := 2) sc_law_great.nd rfl (.inl rfl) pe_int)
    (pss_cons
      (ps_for PassesOwn.never rfl (pi_range1 (by rfl) T.m_range (pa_cons pe_int pa_nil)) (pg_name (i := 3) sc_law_great.nd rfl (.inl rfl))
        (pss_one
          (ps_set (i := 2) sc_law_great.nd rfl (.inl rfl) (pe_op op_add (pe_op op_mul (pv 2) pe_int) (pe_call (ok_law_draw T) hr (by rfl) T.g_law_draw T.F_law_draw.kp T.b_law_draw .nil pass0 (pa_cons (pv 0) (pa_cons pe_int pa_nil)))))))
    (pss_one
      (ps_ret (pe_op op_mod (pv 2) (pv 1)))))), ?_⟩
    refine ⟨7, rfl, by decide, by decide, for_range (n := 7) (fun i σ H' => ∃ (x : Int) (y : Option V), σ = [some (.ref d), some (.int n), some (.int x), y] ∧ Deck H' d g ∧ Kd d g H H') ⟨0, none, rfl, hD, Kd.refl H⟩ ?_ ?_⟩
    · rintro i σ H1 _ ⟨x, y, rfl, hD1, k1⟩
      exact ⟨_, rfl, _, _, rfl, rfl, .inr ⟨by decide, by decide⟩, _, rfl, d, g, 2147483647, rfl, hD1, by decide, by decide +kernel, fun r H2 r0 r1 hD2 k2 => ⟨_, _, rfl, rfl, _, _, rfl, hD2, k1.trans k2⟩⟩
    · rintro σ H1 ⟨x, y, rfl, hD1, k1⟩
      exact ⟨_, rfl, _, rfl, _, _, rfl, rfl, hn, k _ _ (Int.emod_nonneg _ (by omega)) (Int.emod_lt_of_pos _ hn) hD1 k1⟩
def sp_number : Sp := fun vs H Q _ => ∃ (d g : Addr), vs = [.ref d] ∧ Deck H d g ∧ ∀ r H', 1 ≤ r → r < 2 ^ 100 → Std H H' d g → Q (.int r) H'
theorem ok_law_number (T : Tx K w mg) : FnOk P w K mg base CX0 3 T.f_law_number T.d_law_number ["deck"] sp_number := by
  refine T.F_law_number.ok sc_law_number (fun vs H Q E h => ?_) (fun cdv A outer s H vs Q E hr h => ?_)
  · obtain ⟨d, g, rfl, _⟩ := h
    rfl
  · obtain ⟨d, g, rfl, hD, k⟩ := h
    refine ⟨_,
    (pss_cons
      (ps_set (i := 1) sc_law_number.nd rfl (.inl rfl) (pe_call (ok_law_draw T) (hr.mono (by decide)) (by rfl) T.g_law_draw T.F_law_draw.kp T.b_law_draw .nil pass0 (pa_cons (pv 0) (pa_cons pe_int pa_nil))))
    (pss_cons
      (ps_if (pt_cmpR op_eq (pv 1) pe_int (nomark _))
        (pss_one
          (ps_ret (pe_op op_add pe_int (pe_call (ok_law_great T) hr (by rfl) T.g_law_great T.F_law_great.kp T.b_law_great .nil pass0 (pa_cons (pv 0) (pa_cons (pe_op op_sub (pe_op op_pow pe_int pe_int) pe_int) pa_nil))))))
        pss_nil)
    (pss_one
      (ps_ret (pe_op op_add pe_int (pe_call (ok_law_draw T) (hr.mono (by decide)) (by rfl) T.g_law_draw T.F_law_draw.kp T.b_law_draw .nil pass0 (pa_cons (pv 0) (pa_cons (pe_ix ix_list (pe_lst (pa_cons pe_int (pa_cons pe_int (pa_cons pe_int (pa_cons pe_int pa_nil))))) (pv 1) (fun _ _ => rfl)) pa_nil)))))))), ?_⟩
    refine ⟨_, rfl, d, g, 4, rfl, hD, by decide, by decide +kernel, fun way H1 w0 w1 hD1 k1 => ?_⟩
    have s1 := (Std.refl hD).draw hD1 k1
    refine ⟨_, rfl, rfl, _, rfl, ite2 (fun c => ?_) (fun c => ?_)⟩
    · refine ⟨_, rfl, _, _, rfl, rfl, ⟨by decide, by decide, by decide⟩, _, _, rfl, rfl, d, g, _, rfl, hD1, ?_, fun r H2 r0 r1 hD2 k2 => ⟨_, _, rfl, rfl, k _ _ ?_ ?_ (s1.draw hD2 k2)⟩⟩
      · show (0 : Int) < (10 : Int) ^ (30 : Int).toNat - 1
        decide
      · show 1 ≤ 1 + r
        omega
      · have h : r < (10 : Int) ^ (30 : Int).toNat - 1 := r1
        rw [show (10 : Int) ^ (30 : Int).toNat = 1000000000000000000000000000000 by decide] at h
        show 1 + r < _
        omega
    · refine ⟨_, rfl, (by show 4 ≤ sizeLine; decide), fun L hL => ?_⟩
      have s2 := s1.new (o := .lst [.int 1, .int 2, .int 5, .int 9]) hL
      have c0 : way ≠ 0 := fun z => c (decide_eq_true (congrArg V.int z))
      refine ⟨_, rfl, L, _, _, V.int (if way = 1 then 2 else if way = 2 then 5 else 9), rfl, rfl, .of upd_same, ?_, d, g, _, rfl, s2.dk, ?_, ?_, fun r H2 r0 r1 hD2 k2 => ⟨_, _, rfl, rfl, k _ _ ?_ ?_ (s2.draw hD2 k2)⟩⟩
      · have : way = 1 ∨ way = 2 ∨ way = 3 := by omega
        rcases this with rfl | rfl | rfl <;> rfl
      · split
        · decide
        · split <;> decide
      · split
        · decide +kernel
        · split <;> decide +kernel
      · show 1 ≤ 1 + r
        omega
      · have h : r < 9 := by
          refine Int.lt_of_lt_of_le r1 ?_
          split
          · decide
          · split <;> decide
        show 1 + r < _
        omega
def sp_days : Sp := fun vs H Q _ => ∃ (d g : Addr) (n : Int) (m : Nat), vs = [.ref d, .int n, .int m] ∧ Deck H d g ∧ 1 ≤ n ∧ m ≤ 100 ∧
  ∀ (p : Addr) (ds : List Int) (H' : Hp), Std H H' d g → H p = none → Lat H' d g p (ds.map V.int) → ds.length = m → (∀ x ∈ ds, 1 ≤ x ∧ x ≤ n) → Q (.ref p) H'
theorem ok_law_days (T : Tx K w mg) : FnOk P w K mg base CX0 3 T.f_law_days T.d_law_days ["deck", "last_day", "many"] sp_days := by
  refine T.F_law_days.ok sc_law_days (fun vs H Q E h => ?_) (fun cdv A outer s H vs Q E hr h => ?_)
  · obtain ⟨d, g, n, m, rfl, _⟩ := h
    rfl
  · obtain ⟨d, g, n, m, rfl, hD, hn, hm, k⟩ := h
    refine ⟨_,
    (pss_cons
      (ps_set (i := 3) sc_law_days.nd rfl (.inl rfl) (pe_call (ok_law_draw T) (hr.mono (by decide)) (by rfl) T.g_law_draw T.F_law_draw.kp T.b_law_draw .nil pass0 (pa_cons (pv 0) (pa_cons pe_int pa_nil))))
    (pss_cons
      (ps_set (i := 4) sc_law_days.nd rfl (.inr rfl) (pe_callB (call_min2 rfl) (by rfl) T.m_min (by decide +kernel) (pa_cons (pv 1) (pa_cons (pe_op op_add pe_int (pe_call (ok_law_draw T) (hr.mono (by decide)) (by rfl) T.g_law_draw T.F_law_draw.kp T.b_law_draw .nil pass0 (pa_cons (pv 0) (pa_cons pe_int pa_nil)))) pa_nil))))
    (pss_cons
      (ps_set (i := 5) sc_law_days.nd rfl (.inr rfl) (pe_ix ix_list (pe_lst (pa_cons pe_int (pa_cons (pe_op op_sub (pv 1) (pv 4)) (pa_cons (pe_call (ok_law_great T) hr (by rfl) T.g_law_great T.F_law_great.kp T.b_law_great .nil pass0 (pa_cons (pv 0) (pa_cons (pe_op op_add (pe_op op_sub (pv 1) (pv 4)) pe_int) pa_nil))) (pa_cons pe_int pa_nil))))) (pv 3) (fun _ _ => rfl)))
    (pss_cons
      (ps_setLc (i := 6) (own := [("k", 7)]) (g := gName 7) rfl sc_law_days.nd rfl rfl (sw_true rfl rfl rfl (by decide +kernel)) (pi_range1 (by rfl) T.m_range (pa_cons (pv 2) pa_nil)) (blkOk_by (N := ["deck", "last_day", "many", "way", "wide", "low", "days", "k"]) (sc := defScope s_law_days) (own := [("k", 7)]) (by decide +kernel)) (fun _ _ _ _ _ => (pg_name (i := 7) sc_law_days.nd rfl (.inl rfl))) (fun _ _ _ _ _ => pts_nil) (fun _ _ _ _ _ => (pe_op op_add (pe_op op_add (pv 5) pe_int) (pe_call (ok_law_draw T) (hr.mono (by decide)) (by rfl) T.g_law_draw T.F_law_draw.kp T.b_law_draw .nil pass0 (pa_cons (pv 0) (pa_cons (pv 4) pa_nil))))))
    (C8.pss_cut
      (ps_if (pt_cmpR op_eq (pv 3) pe_int (nomark _))
        (pss_one
          (ps_setLc (i := 6) (own := [("k", 7)]) (g := gName 7) rfl sc_law_days.nd rfl rfl (sw_true rfl rfl rfl (by decide +kernel)) (pi_range1 (by rfl) T.m_range (pa_cons (pv 2) pa_nil)) (blkOk_by (N := ["deck", "last_day", "many", "way", "wide", "low", "days", "k"]) (sc := defScope s_law_days) (own := [("k", 7)]) (by decide +kernel)) (fun _ _ _ _ _ => (pg_name (i := 7) sc_law_days.nd rfl (.inl rfl))) (fun _ _ _ _ _ => pts_nil) (fun _ _ _ _ _ => (pe_op op_add pe_int (pe_call (ok_law_great T) hr (by rfl) T.g_law_great T.F_law_great.kp T.b_law_great .nil pass0 (pa_cons (pv 0) (pa_cons (pv 1) pa_nil)))))))
        pss_nil)
    (pss_one
      (ps_ret (pv 6)))))))), ?_⟩
    refine ⟨_, rfl, d, g, 4, rfl, hD, by decide, by decide +kernel, fun way H1 w0 w1 hD1 k1 => ?_⟩
    have s1 := (Std.refl hD).draw hD1 k1
    refine ⟨_, rfl, _, rfl, d, g, 6, rfl, hD1, by decide, by decide +kernel, fun e H2 e0 e1 hD2 k2 => ⟨_, _, rfl, rfl, _, _, rfl, ?_⟩⟩
    have s2 := s1.draw hD2 k2
    have hw : 1 ≤ (if 1 + e < n then 1 + e else n) ∧ (if 1 + e < n then 1 + e else n) ≤ n ∧ (if 1 + e < n then 1 + e else n) ≤ 6 := by split <;> omega
    show tSeq _ _ _ [some (V.ref d), some (V.int n), some (V.int (m : Int)), some (V.int way), some (V.int (if 1 + e < n then 1 + e else n)), none, none, none] H2
    generalize (if 1 + e < n then 1 + e else n) = wd at hw
    -- low
    refine ⟨_, rfl, _, rfl, _, _, rfl, rfl, _, rfl, _, rfl, _, rfl, _, _, rfl, rfl, _, _, rfl, rfl, d, g, _, rfl, hD2, ?_, fun r H3 r0 r1 hD3 k3 => ⟨(by show 4 ≤ sizeLine; decide), fun L hL => ?_⟩⟩
    · show (0 : Int) < n - wd + 1
      omega
    have r2 : r < n - wd + 1 := r1
    have s3 := (s2.draw hD3 k3).new (o := .lst [.int 0, .int (n - wd), .int r, .int 0]) hL
    refine ⟨_, rfl, L, _, _, V.int (if way = 1 then n - wd else if way = 2 then r else 0), rfl, rfl, .of upd_same, ?_, ?_⟩
    · have : way = 0 ∨ way = 1 ∨ way = 2 ∨ way = 3 := by omega
      rcases this with rfl | rfl | rfl | rfl <;> rfl
    have hlow : 0 ≤ (if way = 1 then n - wd else if way = 2 then r else 0) ∧ (if way = 1 then n - wd else if way = 2 then r else 0) ≤ n - wd := by
      by_cases h1 : way = 1
      · simp only [if_pos h1]; omega
      · simp only [if_neg h1]
        by_cases h2 : way = 2
        · simp only [if_pos h2]; omega
        · simp only [if_neg h2]; omega
    generalize (if way = 1 then n - wd else if way = 2 then r else 0) = low at hlow
    have s3 : Std H (upd H3 L (.lst [.int 0, .int (n - wd), .int r, .int 0])) d g := s3
    show tSeq _ _ _ [some (V.ref d), some (V.int n), some (V.int (m : Int)), some (V.int way), some (V.int wd), some (V.int low), none, none] (upd H3 L (.lst [.int 0, .int (n - wd), .int r, .int 0]))
    generalize upd H3 L (.lst [.int 0, .int (n - wd), .int r, .int 0]) = H4 at s3
    -- days
    refine ⟨_, rfl, _, rfl, by omega, by omega, fun D hDn => ?_⟩
    have dD := s3.dk.new hDn
    have fD := s3.free hDn
    refine lc_range (lo := 0) (n := ((m : Int)).toNat) (fun i H' => ∃ ds : List Int, Std H H' d g ∧ H' D = some (.lst (ds.map V.int)) ∧ ds.length = i ∧ ∀ x ∈ ds, 1 ≤ x ∧ x ≤ n) ⟨[], s3.new hDn, upd_same, rfl, fun _ h => absurd h List.not_mem_nil⟩ ?_ ?_
    · rintro i H5 hi ⟨ds, s5, eD, dl, hx⟩
      have hi2 : i < m := by
        have : i < ((m : Int)).toNat := hi
        omega
      refine ⟨rfl, _, rfl, _, _, rfl, rfl, _, rfl, _, rfl, d, g, wd, rfl, s5.dk, by omega, small_log (by omega), fun q H6 q0 q1 hD6 k6 => ⟨_, _, rfl, rfl, ds.map V.int, k6 _ _ eD dD.1 dD.2, ?_, ds ++ [low + 1 + q], (s5.draw hD6 k6).mut fD dD.1 dD.2, ?_, ?_, fun x hx' => ?_⟩⟩
      · rw [List.length_map]; exact small1000 (by omega)
      · rw [upd_same, List.map_append]; rfl
      · rw [List.length_append, dl]; rfl
      · rcases List.mem_append.mp hx' with h | h
        · exact hx x h
        · have := List.mem_singleton.mp h
          omega
    · rintro H5 ⟨ds, s5, eD, dl, hx⟩
      refine ⟨fun σ' H' => ∃ (D' : Addr) (ds : List Int), σ' = [some (V.ref d), some (V.int n), some (V.int (m : Int)), some (V.int way), some (V.int wd), some (V.int low), some (V.ref D'), none] ∧ Std H H' d g ∧ H D' = none ∧ H' D' = some (.lst (ds.map V.int)) ∧ D' ≠ d ∧ D' ≠ g ∧ ds.length = m ∧ ∀ x ∈ ds, 1 ≤ x ∧ x ≤ n, ?_, ?_⟩
      · refine ⟨_, rfl, rfl, _, rfl, ite2 (fun c => ?_) (fun c => ⟨D, ds, rfl, s5, fD, eD, dD.1, dD.2, by omega, hx⟩)⟩
        refine ⟨_, rfl, _, rfl, by omega, by omega, fun D2 hD2n => ?_⟩
        have dD2 := s5.dk.new hD2n
        have fD2 := s5.free hD2n
        refine lc_range (lo := 0) (n := ((m : Int)).toNat) (fun i H' => ∃ ds : List Int, Std H H' d g ∧ H' D2 = some (.lst (ds.map V.int)) ∧ ds.length = i ∧ ∀ x ∈ ds, 1 ≤ x ∧ x ≤ n) ⟨[], s5.new hD2n, upd_same, rfl, fun _ h => absurd h List.not_mem_nil⟩ ?_ ?_
        · rintro i H6 hi ⟨ds, s6, eD, dl, hx⟩
          have hi2 : i < m := by
            have : i < ((m : Int)).toNat := hi
            omega
          refine ⟨rfl, _, rfl, _, rfl, d, g, n, rfl, s6.dk, by omega, fun q H7 q0 q1 hD7 k7 => ⟨_, _, rfl, rfl, ds.map V.int, k7 _ _ eD dD2.1 dD2.2, ?_, ds ++ [1 + q], (s6.draw hD7 k7).mut fD2 dD2.1 dD2.2, ?_, ?_, fun x hx' => ?_⟩⟩
          · rw [List.length_map]; exact small1000 (by omega)
          · rw [upd_same, List.map_append]; rfl
          · rw [List.length_append, dl]; rfl
          · rcases List.mem_append.mp hx' with h | h
            · exact hx x h
            · have := List.mem_singleton.mp h
              omega
        · rintro H6 ⟨ds, s6, eD, dl, hx⟩
          exact ⟨D2, ds, rfl, s6, fD2, eD, dD2.1, dD2.2, by omega, hx⟩
      · rintro σ H6 ⟨D', ds, rfl, s6, fD', eD', n1, n2, dl, hx⟩
        exact ⟨_, rfl, k D' ds H6 s6 fD' ⟨eD', n1, n2⟩ dl hx⟩
/-! ### kept, by the law -/
theorem find_ix {z : Str} : ∀ {ts : List Str} {ds : List Int}, ts.length = ds.length → z ∈ ts → ∃ j : Nat, ts[j]? = some z ∧ (∀ m : Nat, m < j → ts[m]? ≠ some z) ∧ ds[j]? = some (look ts ds z)
  | [], _, _, h => absurd h List.not_mem_nil
  | _ :: _, [], h, _ => by cases h
  | t :: ts, d :: ds, hl, h => by
    by_cases e : t = z
    · refine ⟨0, congrArg some e, fun m hm => absurd hm (Nat.not_lt_zero m), ?_⟩
      unfold look
      rw [if_pos e]
      rfl
    · have h2 : z ∈ ts := by
        rcases List.mem_cons.mp h with x | x
        · exact absurd x.symm e
        · exact x
      obtain ⟨j, h3, h4, h5⟩ := find_ix (z := z) (Nat.succ.inj hl) h2
      refine ⟨j + 1, h3, fun m hm => ?_, ?_⟩
      · cases m with
        | zero => exact fun z => e (Option.some.inj z)
        | succ m => exact h4 m (Nat.lt_of_succ_lt_succ hm)
      · unfold look
        rw [if_neg e]
        exact h5
theorem eqV_strs (a b : Str) : eqV (V.str a) (V.str b) = decide (a = b) := by
  show (a == b) = _
  by_cases h : a = b
  · rw [decide_eq_true h]; exact beq_iff_eq.mpr h
  · rw [decide_eq_false h]; exact beq_eq_false_iff_ne.mpr h
def sp_lkept (K : PySem.W.Frag) : Sp := fun vs H Q _ => ∃ (a t p : Addr) (n : Int) (ts l : List Str) (ds : List Int), vs = [.ref a, .ref t, .int n, .ref p] ∧ SqT K H a (l.map V.str) ∧ SqL K H t (ts.map V.str) ∧ SqL K H p (ds.map V.int) ∧ RuleOk ts l ∧ ts.length = ds.length ∧ Q (.bl (keptB l n (look ts ds))) H
theorem ok_law_kept (T : Tx K w mg) : FnOk P w K mg base CX0 1 T.f_law_kept T.d_law_kept ["rule", "task_list", "last_day", "days"] (sp_lkept K) := by
  refine T.F_law_kept.ok sc_law_kept (fun vs H Q E h => ?_) (fun cdv A outer s H vs Q E hr h => ?_)
  · obtain ⟨a, t, p, n, ts, l, ds, rfl, _⟩ := h
    rfl
  · obtain ⟨a, t, p, n, ts, l, ds, rfl, hA, hT, hP, ok, hl, k⟩ := h
    refine ⟨_,
    (pss_cons
      (ps_set (i := 4) sc_law_kept.nd rfl (.inl rfl) (pe_ix ix_tup (pv 0) pe_int (fun _ _ => rfl)))
    (pss_cons
      (ps_set (i := 5) sc_law_kept.nd rfl (.inl rfl) (pe_ix ix_list (pv 3) (pe_bm PySem.F.plainAttrs_list PySem.F.slot_list_index PySem.F.type_list_index mt_index (pv 1) (pa_cons (pe_ix ix_tup (pv 0) pe_int (fun _ _ => rfl)) pa_nil)) (fun _ _ => rfl)))
    (pss_cons
      (ps_if (pt_cmpR op_eq (pv 4) pe_str (nomark _))
        (pss_one
          (ps_ret (pe_cmpR op_eq (pv 5) pe_int (nomark _))))
        pss_nil)
    (pss_cons
      (ps_if (pt_cmpR op_eq (pv 4) pe_str (nomark _))
        (pss_one
          (ps_ret (pe_cmpR op_eq (pv 5) (pv 2) (nomark _))))
        pss_nil)
    (pss_cons
      (ps_set (i := 6) sc_law_kept.nd rfl (.inl rfl) (pe_op op_sub (pe_ix ix_list (pv 3) (pe_bm PySem.F.plainAttrs_list PySem.F.slot_list_index PySem.F.type_list_index mt_index (pv 1) (pa_cons (pe_ix ix_tup (pv 0) pe_int (fun _ _ => rfl)) pa_nil)) (fun _ _ => rfl)) (pv 5)))
    (pss_cons
      (ps_if (pt_cmpR op_eq (pv 4) pe_str (nomark _))
        (pss_one
          (ps_ret (pe_cmpR op_gt (pv 6) pe_int (nomark _))))
        pss_nil)
    (pss_cons
      (ps_if (pt_cmpR op_eq (pv 4) pe_str (nomark _))
        (pss_one
          (ps_ret (pe_cmpR op_ge (pv 6) pe_int (nomark _))))
        pss_nil)
    (pss_cons
      (ps_if (pt_cmpR op_eq (pv 4) pe_str (nomark _))
        (pss_one
          (ps_ret (pe_cmpR op_eq (pv 6) pe_int (nomark _))))
        pss_nil)
    (pss_cons
      (ps_if (pt_cmpR op_eq (pv 4) pe_str (nomark _))
        (pss_one
          (ps_ret (pe_cmpR op_ne (pv 6) pe_int (nomark _))))
        pss_nil)
    (pss_cons
      (ps_if (pt_cmpR op_eq (pv 4) pe_str (nomark _))
        (pss_one
          (ps_ret (pe_cmpR op_gt (pv 6) pe_int (nomark _))))
        pss_nil)
    (pss_one
      (ps_ret (pe_cmpR op_eq (pv 6) pe_int (nomark _)))))))))))))), ?_⟩
    have as : ∀ {b b' : Bool}, b = b' → Q (.bl b) H → Q (.bl b') H := fun e h => e ▸ h
    have ix : ∀ z : Str, z ∈ ts → ∃ j : Nat, (ts.map V.str)[j]? = some (V.str z) ∧ (∀ (m : Nat) (z' : V), m < j → (ts.map V.str)[m]? = some z' → eqV z' (V.str z) = false) ∧ (ds.map V.int)[j]? = some (V.int (look ts ds z)) := fun z h => by
      obtain ⟨j, h1, h2, h3⟩ := find_ix hl h
      refine ⟨j, by rw [List.getElem?_map, h1]; rfl, fun m z' hm e => ?_, by rw [List.getElem?_map, h3]; rfl⟩
      rw [List.getElem?_map] at e
      obtain ⟨y, hy, rfl⟩ := Option.map_eq_some_iff.mp e
      rw [eqV_strs]
      exact decide_eq_false fun x => h2 m hm (x ▸ hy)
    rcases ok with ⟨kd, x, hk, hx, rfl⟩ | ⟨kd, x, y, hk, hx, hy, _, rfl⟩
    · obtain ⟨j, j1, j2, j3⟩ := ix x hx
      refine ⟨_, rfl, a, _, _, _, rfl, rfl, hA, atI_nat (j := 0) rfl, _, rfl, _, rfl, .inl ⟨rfl, _, hT⟩, _, rfl, a, _, _, _, rfl, rfl, hA, atI_nat (j := 1) rfl, t, _, V.str x, j, _, rfl, rfl, hT, rfl, flat_strs _, j1, ?_, j2, p, _, _, _, rfl, rfl, hP, atI_nat j3, ?_⟩
      · rw [eqV_strs]; exact decide_eq_true rfl
      refine ⟨_, rfl, rfl, _, rfl, ite2 (fun c => ?_) (fun c => ?_)⟩
      · refine ⟨_, rfl, rfl, as ?_ k⟩
        rw [dI]
        exact if_pos (dS c)
      · have c1 := dSN c
        have c2 : kd = "last" := (two_is hk).resolve_left c1
        refine ⟨_, rfl, rfl, _, rfl, iteD (congrArg V.str c2) ⟨_, rfl, _, rfl, rfl, as ?_ k⟩⟩
        rw [dI]
        exact (if_neg c1).trans (if_pos c2)
    · obtain ⟨n1, n2⟩ := six_not hk
      obtain ⟨j, j1, j2, j3⟩ := ix x hx
      obtain ⟨i, i1, i2, i3⟩ := ix y hy
      refine ⟨_, rfl, a, _, _, _, rfl, rfl, hA, atI_nat (j := 0) rfl, _, rfl, _, rfl, .inl ⟨rfl, _, hT⟩, _, rfl, a, _, _, _, rfl, rfl, hA, atI_nat (j := 1) rfl, t, _, V.str x, j, _, rfl, rfl, hT, rfl, flat_strs _, j1, ?_, j2, p, _, _, _, rfl, rfl, hP, atI_nat j3, ?_⟩
      · rw [eqV_strs]; exact decide_eq_true rfl
      refine ⟨_, rfl, rfl, _, rfl, iteND (fun z => n1 (V.str.inj z)) ⟨_, rfl, rfl, _, rfl, iteND (fun z => n2 (V.str.inj z)) ?_⟩⟩
      refine ⟨_, rfl, _, rfl, .inl ⟨rfl, _, hT⟩, _, rfl, a, _, _, _, rfl, rfl, hA, atI_nat (j := 2) rfl, t, _, V.str y, i, _, rfl, rfl, hT, rfl, flat_strs _, i1, ?_, i2, p, _, _, _, rfl, rfl, hP, atI_nat i3, _, rfl, _, _, rfl, rfl, ?_⟩
      · rw [eqV_strs]; exact decide_eq_true rfl
      generalize look ts ds = f at k ⊢
      have k' : Q (.bl (if kd = "before" then decide (0 < f y - f x) else if kd = "upto" then decide (0 ≤ f y - f x) else if kd = "same" then decide (f y - f x = 0) else if kd = "apart" then !decide (f y - f x = 0) else if kd = "far" then decide (2 ≤ f y - f x) else decide (f y - f x = 1))) H :=
        as ((if_neg n1).trans (if_neg n2)) k
      refine ⟨_, rfl, rfl, _, rfl, ite2 (fun c => ⟨_, rfl, _, _, rfl, rfl, as (if_pos (dS c)) k'⟩) (fun c => ?_)⟩
      have k' := as (if_neg (dSN c)) k'
      refine ⟨_, rfl, rfl, _, rfl, ite2 (fun c => ⟨_, rfl, _, _, rfl, rfl, as (if_pos (dS c)) k'⟩) (fun c => ?_)⟩
      have k' := as (if_neg (dSN c)) k'
      refine ⟨_, rfl, rfl, _, rfl, ite2 (fun c => ⟨_, rfl, rfl, as ((if_pos (dS c)).trans (dI _ _).symm) k'⟩) (fun c => ?_)⟩
      have k' := as (if_neg (dSN c)) k'
      refine ⟨_, rfl, rfl, _, rfl, ite2 (fun c => ⟨_, rfl, rfl, as ((if_pos (dS c)).trans (congrArg Bool.not (dI _ _).symm)) k'⟩) (fun c => ?_)⟩
      have k' := as (if_neg (dSN c)) k'
      refine ⟨_, rfl, rfl, _, rfl, ite2 (fun c => ⟨_, rfl, _, _, rfl, rfl, as ((if_pos (dS c)).trans (decide_eq_decide.mpr (by omega))) k'⟩) (fun c => ?_)⟩
      have k' := as (if_neg (dSN c)) k'
      exact ⟨_, rfl, rfl, as (dI _ _).symm k'⟩
/-! ### plans, by the law -/
def sp_isplan (K : PySem.W.Frag) : Sp := fun vs H Q _ => ∃ (t r p : Addr) (n : Int) (ts : List Str) (as : List Addr) (ls : List (List Str)) (ds : List Int), vs = [.ref t, .ref r, .int n, .ref p] ∧ SqL K H t (ts.map V.str) ∧ SqL K H r (as.map V.ref) ∧ Rls ts H as ls ∧ SqL K H p (ds.map V.int) ∧ ds.length ≤ 5000 ∧ as.length ≤ 1000 ∧
  ∀ H', Same H H' → Q (.bl (planB ts ls n ds)) H'
theorem filter_none {α : Type} (q : α → Bool) (xs : List α) : ((xs.filter fun x => !q x).length = 0) ↔ xs.all q = true := by
  rw [List.length_eq_zero_iff, List.filter_eq_nil_iff, List.all_eq_true]
  constructor
  · intro h x hx
    have := h x hx
    simpa using this
  · intro h x hx
    rw [h x hx]
    decide
theorem filter_one {α : Type} {q : α → Bool} {x : α} (h : q x = true) : List.filter q [x] = [x] := by
  rw [List.filter_cons_of_pos h]
  rfl
theorem filter_zero {α : Type} {q : α → Bool} {x : α} (h : ¬ q x = true) : List.filter q [x] = [] := by
  rw [List.filter_cons_of_neg h]
  rfl
theorem ok_law_is_plan (T : Tx K w mg) : FnOk P w K mg base CX0 2 T.f_law_is_plan T.d_law_is_plan ["task_list", "rule_list", "last_day", "days"] (sp_isplan K) := by
  refine T.F_law_is_plan.ok sc_law_is_plan (fun vs H Q E h => ?_) (fun cdv A outer s H vs Q E hr h => ?_)
  · obtain ⟨t, r, p, n, ts, as, ls, ds, rfl, _⟩ := h
    rfl
  · obtain ⟨t, r, p, n, ts, as, ls, ds, rfl, hT, hR, rls, hP, f3, f4, k⟩ := h
    refine ⟨_,
    (pss_cons
      (ps_if (PW.pt (pw_or (pt_cmpR op_ne (pe_callB call_len_seq (by rfl) T.m_len (by decide +kernel) (pa_cons (pv 3) pa_nil)) (pe_callB call_len_seq (by rfl) T.m_len (by decide +kernel) (pa_cons (pv 0) pa_nil)) (nomark _)) (pw_or1 (pt_cmpR op_gt (pe_callB call_len_seq (by rfl) T.m_len (by decide +kernel) (pa_cons (pe_lc (own := [("day", 4)]) (g := gName 4) rfl sc_law_is_plan.nd (pi_list (pv 3)) (blkOk_by (N := ["task_list", "rule_list", "last_day", "days", "day", "rule"]) (sc := defScope s_law_is_plan) (own := [("day", 4)]) (by decide +kernel)) (fun _ _ _ _ _ => (pg_name (i := 4) sc_law_is_plan.nd rfl (.inl rfl))) (fun _ _ _ _ _ => (pts_one (PW.pt (pw_or (pt_cmpR op_lt (pv 4) pe_int (nomark _)) (pw_or1 (pt_cmpR op_gt (pv 4) (pv 2) (nomark _))))))) (fun _ _ _ _ _ => (pv 4))) pa_nil)) pe_int (nomark _)))))
        (pss_one
          (ps_ret pe_bl))
        pss_nil)
    (pss_one
      (ps_ret (pe_cmpR op_eq (pe_callB call_len_seq (by rfl) T.m_len (by decide +kernel) (pa_cons (pe_lc (own := [("rule", 5)]) (g := gName 5) rfl sc_law_is_plan.nd (pi_list (pv 1)) (blkOk_by (N := ["task_list", "rule_list", "last_day", "days", "day", "rule"]) (sc := defScope s_law_is_plan) (own := [("rule", 5)]) (by decide +kernel)) (fun _ _ _ _ _ => (pg_name (i := 5) sc_law_is_plan.nd rfl (.inl rfl))) (fun _ _ _ _ _ => (pts_one (pt_not (pt_val (pe_call (ok_law_kept T) hr (by rfl) T.g_law_kept T.F_law_kept.kp T.b_law_kept .nil pass0 (pa_cons (pv 5) (pa_cons (pv 0) (pa_cons (pv 2) (pa_cons (pv 3) pa_nil))))))))) (fun _ _ _ _ _ => (pv 5))) pa_nil)) pe_int (nomark _))))), ?_⟩
    refine ⟨_, rfl, p, _, rfl, .inl hP, _, rfl, t, _, rfl, .inl hT, rfl, _, rfl, ite2 (fun c => ?_) (fun c => ?_)⟩
    · have hne : ds.length ≠ ts.length := fun z => by
        rw [List.length_map, List.length_map, z, decide_eq_true rfl] at c
        exact Bool.false_ne_true c
      have k1 := k H (Same.refl H)
      have e : planB ts ls n ds = false := by
        unfold planB
        rw [decide_eq_false hne]
        rfl
      rw [e] at k1
      exact k1
    have hlen : ds.length = ts.length := by
      have h2 : decide (V.int (((ds.map V.int).length : Nat) : Int) = V.int (((ts.map V.str).length : Nat) : Int)) = true := by simpa using c
      have := V.int.inj (of_decide_eq_true h2)
      rw [List.length_map, List.length_map] at this
      omega
    refine ⟨_, rfl, p, rfl, ⟨_, hP⟩, fun D hD => ?_⟩
    refine lc_list (xs := ds.map V.int) (fun i H' => H' D = some (.lst (((ds.take i).filter fun d => !(decide (1 ≤ d) && decide (d ≤ n))).map V.int)) ∧ Same H H') ⟨upd_same, same_upd hD⟩ (fun i H' _ h => h.2.seq hP) ?_ ?_
    · rintro i v H1 hi ⟨eD, sm⟩
      have hil := (List.getElem?_eq_some_iff.mp hi).1
      rw [List.length_map] at hil
      rw [List.getElem?_map] at hi
      obtain ⟨d, hd, rfl⟩ := Option.map_eq_some_iff.mp hi
      have et : ds.take (i + 1) = ds.take i ++ [d] := by rw [List.take_add_one, hd]; rfl
      have room : ((((ds.take i).filter fun d => !(decide (1 ≤ d) && decide (d ≤ n))).map V.int)).length < sizeLine := by
        rw [List.length_map]
        refine Nat.lt_of_le_of_lt (Nat.le_trans (List.length_filter_le _ _) ?_) (show 5000 < sizeLine by decide)
        rw [List.length_take]
        omega
      have bad : (!(decide (1 ≤ d) && decide (d ≤ n))) = true → H1 D = some (.lst (((ds.take i).filter fun d => !(decide (1 ≤ d) && decide (d ≤ n))).map V.int)) ∧ ((((ds.take i).filter fun d => !(decide (1 ≤ d) && decide (d ≤ n))).map V.int)).length < sizeLine ∧
          (upd H1 D (.lst ((((ds.take i).filter fun d => !(decide (1 ≤ d) && decide (d ≤ n))).map V.int) ++ [V.int d]))) D = some (.lst (((ds.take (i + 1)).filter fun d => !(decide (1 ≤ d) && decide (d ≤ n))).map V.int)) ∧ Same H (upd H1 D (.lst ((((ds.take i).filter fun d => !(decide (1 ≤ d) && decide (d ≤ n))).map V.int) ++ [V.int d]))) := fun hb => by
        refine ⟨eD, room, ?_, fun b o e => ?_⟩
        · rw [upd_same, et, List.filter_append, List.map_append]
          have : List.filter (fun d => !(decide (1 ≤ d) && decide (d ≤ n))) [d] = [d] := filter_one hb
          rw [this]
          rfl
        · rw [upd_ne (ne_of_none e hD)]
          exact sm b o e
      refine ⟨rfl, _, rfl, _, _, rfl, rfl, _, rfl, ite2 (fun c1 => ?_) (fun c1 => ?_)⟩
      · have h1 : d < 1 := of_decide_eq_true c1
        exact ⟨_, rfl, _, bad (by rw [decide_eq_false (show ¬ 1 ≤ d by omega)]; rfl)⟩
      · have h1 : ¬ d < 1 := fun z => c1 (decide_eq_true z)
        refine ⟨_, rfl, _, rfl, _, _, rfl, rfl, _, rfl, ite2 (fun c2 => ?_) (fun c2 => ?_)⟩
        · have h2 : n < d := of_decide_eq_true c2
          exact ⟨_, rfl, _, bad (by rw [decide_eq_false (show ¬ d ≤ n by omega), Bool.and_false]; rfl)⟩
        · have h2 : ¬ n < d := fun z => c2 (decide_eq_true z)
          refine ⟨?_, sm⟩
          rw [eD, et, List.filter_append]
          have : List.filter (fun d => !(decide (1 ≤ d) && decide (d ≤ n))) [d] = [] := filter_zero (by
            show ¬ (!(decide (1 ≤ d) && decide (d ≤ n))) = true
            rw [decide_eq_true (show 1 ≤ d by omega), decide_eq_true (show d ≤ n by omega)]
            decide)
          rw [this, List.append_nil]
    · rintro H1 ⟨eD, sm⟩
      rw [List.length_map, List.take_length] at eD
      refine ⟨D, _, rfl, .inl (.of eD), _, _, rfl, rfl, _, rfl, ite2 (fun c1 => ?_) (fun c1 => ?_)⟩
      · have h1 : (0 : Int) < ((((ds.filter fun d => !(decide (1 ≤ d) && decide (d ≤ n))).map V.int).length : Nat) : Int) := of_decide_eq_true c1
        rw [List.length_map] at h1
        have hf : ¬ (ds.all fun d => decide (1 ≤ d) && decide (d ≤ n)) = true := fun z => by
          have := (filter_none (fun d => decide (1 ≤ d) && decide (d ≤ n)) ds).mpr z
          omega
        have k1 := k H1 sm
        have e : planB ts ls n ds = false := by
          unfold planB
          rw [Bool.eq_false_iff.mpr hf, Bool.and_false, Bool.false_and]
        rw [e] at k1
        exact k1
      · have h1 : ¬ (0 : Int) < ((((ds.filter fun d => !(decide (1 ≤ d) && decide (d ≤ n))).map V.int).length : Nat) : Int) := fun z => c1 (decide_eq_true z)
        rw [List.length_map] at h1
        have hall := (filter_none (fun d => decide (1 ≤ d) && decide (d ≤ n)) ds).mp (by omega)
        refine ⟨_, rfl, r, rfl, ⟨_, sm.seq hR⟩, fun D2 hD2 => ?_⟩
        have alen := rls.len
        refine lc_list (xs := as.map V.ref) (fun i H' => ∃ bs : List Addr, H' D2 = some (.lst (bs.map V.ref)) ∧ bs.length = ((ls.take i).filter fun l => !keptB l n (look ts ds)).length ∧ bs.length ≤ i ∧ Same H1 H') ⟨[], upd_same, rfl, Nat.le_refl _, same_upd hD2⟩ ?_ ?_ ?_
        · rintro i H' _ ⟨bs, _, _, _, s2⟩
          exact s2.seq (sm.seq hR)
        · rintro i v H3 hi ⟨bs, eD2, bl, bi, s3⟩
          have hil := (List.getElem?_eq_some_iff.mp hi).1
          rw [List.length_map] at hil
          rw [List.getElem?_map] at hi
          obtain ⟨a, ha, rfl⟩ := Option.map_eq_some_iff.mp hi
          obtain ⟨l, hl, ea, rok⟩ := rls.at ha
          have s13 := sm.trans s3
          have et : ls.take (i + 1) = ls.take i ++ [l] := by rw [List.take_add_one, hl]; rfl
          refine ⟨rfl, _, rfl, _, rfl, _, rfl, _, rfl, a, t, p, n, ts, l, ds, rfl, .of (s13 _ _ ea), s13.seq hT, s13.seq hP, rok, hlen.symm, _, rfl, ite2 (fun c2 => ?_) (fun c2 => ?_)⟩
          · refine ⟨_, rfl, bs.map V.ref, eD2, ?_, bs ++ [a], ?_, ?_, ?_, fun b o e => ?_⟩
            · rw [List.length_map]; exact small1000 (by omega)
            · rw [upd_same, List.map_append]; rfl
            · have : List.filter (fun l => !keptB l n (look ts ds)) [l] = [l] := filter_one c2
              rw [et, List.filter_append, List.length_append, List.length_append, bl, this]
              rfl
            · rw [List.length_append]; exact Nat.succ_le_succ bi
            · rw [upd_ne (ne_of_none e hD2)]
              exact s3 b o e
          · have : List.filter (fun l => !keptB l n (look ts ds)) [l] = [] := filter_zero c2
            exact ⟨bs, eD2, by rw [et, List.filter_append, this, List.append_nil]; exact bl, by omega, s3⟩
        · rintro H3 ⟨bs, eD2, bl, bi, s3⟩
          rw [List.length_map, alen, List.take_length] at bl
          refine ⟨D2, _, rfl, .inl (.of eD2), rfl, ?_⟩
          have k1 := k H3 (sm.trans s3)
          have e : planB ts ls n ds = decide (V.int (((bs.map V.ref).length : Nat) : Int) = V.int 0) := by
            unfold planB
            rw [hall, decide_eq_true hlen, Bool.true_and, Bool.true_and, dI, List.length_map, bl]
            by_cases h : (ls.all fun l => keptB l n (look ts ds)) = true
            · rw [h]
              have := (filter_none (fun l => keptB l n (look ts ds)) ls).mpr h
              rw [this]
              rfl
            · rw [Bool.eq_false_iff.mpr h]
              refine (decide_eq_false fun z => h ((filter_none (fun l => keptB l n (look ts ds)) ls).mp ?_)).symm
              omega
          rw [e] at k1
          exact k1
/-! ### books out of books -/
def PostB (C : Addr) (H : Hp) (ts : List Str) (ls : List (List Str)) (Q : VK) : Prop := ∀ (x dx p q : Addr) (as : List Addr) (H' : Hp), Same H H' → H p = none → H q = none → H' x = some (.ins C dx (fl p q)) → H' p = some (.lst (ts.map V.str)) → H' q = some (.lst (as.map V.ref)) → Rls ts H' as ls → Q (.ref x) H'
theorem mkB {C : Addr} {H H1 : Hp} {t D : Addr} {ts : List Str} {bs : List Addr} {ls : List (List Str)} {R : Addr → Hp → Prop} {E : XK} (sm : Same H H1) (ht : H1 t = some (.lst (ts.map V.str))) (eD : H1 D = some (.lst (bs.map V.ref))) (rb : Rls ts H1 bs ls) (ok : TasksOk ts) (k : ∀ (x dx p q : Addr) (as : List Addr) (H' : Hp), Same H H' → H p = none → H q = none → H' x = some (.ins C dx (fl p q)) → H' p = some (.lst (ts.map V.str)) → H' q = some (.lst (as.map V.ref)) → Rls ts H' as ls → R x H') :
    ∀ x dx, H1 x = none → H1 dx = none → dx ≠ x → sp_init K C [.ref x, .ref t, .ref D] (upd (upd H1 dx (.own x)) x (.ins C dx [])) (fun v H' => v = V.non ∧ R x H') E := by
  have sq : ∀ {H : Hp} {x dx b : Addr} {o : HO}, H x = none → H dx = none → H b = some o → (upd (upd H dx (.own x)) x (.ins C dx [])) b = some o := fun hx hdx e => by
    rw [upd_ne (ne_of_none e hx), upd_ne (ne_of_none e hdx)]; exact e
  refine fun x dx hx hdx ne => ⟨x, dx, t, D, ts, bs, rfl, upd_same, .of (sq hx hdx ht), .of (sq hx hdx eD), ok, fun u hu => ?_, fun p q H2 fp fq ex ep eq kp => ⟨rfl, ?_⟩⟩
  · obtain ⟨l, e, h⟩ := rb.mem hu
    exact ⟨l, .of (sq hx hdx e), h⟩
  have s2 : Same H1 H2 := Same.made hx hdx kp
  have free : ∀ {p : Addr}, (upd (upd H1 dx (.own x)) x (.ins C dx [])) p = none → H1 p = none := fun {p} f => by
    cases h : H1 p with
    | none => rfl
    | some o =>
      rw [sq hx hdx h] at f
      cases f
  exact k x dx p q bs H2 (sm.trans s2) (sm.free (free fp)) (sm.free (free fq)) ex ep eq (rb.keep (Same.tk s2))
theorem Rls.take {ts : List Str} {H : Hp} : ∀ {as : List Addr} {ls : List (List Str)} (n : Nat), Rls ts H as ls → Rls ts H (as.take n) (ls.take n)
  | _, _, 0, _ => by simpa using Rls.nil
  | _, _, _ + 1, .nil => .nil
  | _, _, n + 1, .cons h k r => .cons h k (r.take n)
theorem Rls.drop {ts : List Str} {H : Hp} : ∀ {as : List Addr} {ls : List (List Str)} (n : Nat), Rls ts H as ls → Rls ts H (as.drop n) (ls.drop n)
  | _, _, 0, r => by simpa using r
  | _, _, _ + 1, .nil => .nil
  | _, _, n + 1, .cons _ _ r => r.drop n
theorem Rls.app {ts : List Str} {H : Hp} {bs : List Addr} {ms : List (List Str)} (h2 : Rls ts H bs ms) : ∀ {as : List Addr} {ls : List (List Str)}, Rls ts H as ls → Rls ts H (as ++ bs) (ls ++ ms)
  | _, _, .nil => h2
  | _, _, .cons h n r => .cons h n (h2.app r)
def sp_with (K : PySem.W.Frag) (C : Addr) : Sp := fun vs H Q _ => ∃ (b r : Addr) (ts : List Str) (ls ms : List (List Str)) (as : List Addr), vs = [.ref b, .ref r] ∧ BkR K C H b ts ls ∧ H r = some (.lst (as.map V.ref)) ∧ Rls ts H as ms ∧ TasksOk ts ∧ ls.length ≤ 400 ∧ ms.length ≤ 400 ∧ PostB C H ts (ls ++ ms) Q
theorem ok_Book_with_rules (T : Tx K w mg) : FnOk P w K mg base CX0 5 T.f_Book_with_rules T.d_Book_with_rules ["self", "rules"] (sp_with K T.C_Book) := by
  refine T.F_Book_with_rules.ok sc_Book_with_rules (fun vs H Q E h => ?_) (fun cdv A outer s H vs Q E hr h => ?_)
  · obtain ⟨b, r, ts, ls, ms, as, rfl, _⟩ := h
    rfl
  · obtain ⟨b, r, ts, ls, ms, as, rfl, ⟨bx, t, br, bs, hb, ht, hR, rls⟩, hr', rms, ok, f1, f2, k⟩ := h
    refine ⟨_,
    (pss_one
      (ps_ret (pe_make T.mk_Book (ok_Book_init T) hr (by rfl) T.mg_Book T.b_Book_init .nil pass0 (pa_cons (pe_fld (pv 0) rfl) (pa_cons (pe_op op_cat (pe_fld (pv 0) rfl) (pv 1)) pa_nil))))), ?_⟩
    have l1 := rls.len
    have l2 := rms.len
    refine ⟨_, rfl, b, T.C_Book, bx, _, _, rfl, hb, T.cl_Book, T.n_Book_tasks, fl_t t br, _, rfl, b, T.C_Book, bx, _, _, rfl, hb, T.cl_Book, T.n_Book_rules, fl_r t br, _, rfl, br, r, _, _, rfl, rfl, hR, hr', ?_, fun p hp => ?_⟩
    · rw [List.length_map, List.length_map]; exact Nat.le_of_lt (small1000 (by omega))
    have sp := same_upd (o := .lst (bs.map V.ref ++ as.map V.ref)) hp
    exact mkB sp (sp _ _ ht) (by rw [upd_same, ← List.map_append]) ((rms.keep (Same.tk sp)).app (rls.keep (Same.tk sp))) ok k
/-! ### the books joined: any tasks -/
def uni (ts us : List Str) : List Str := ts ++ us.filter fun z => decide (z ∉ ts)
theorem uni_in {ts us : List Str} {z : Str} (h : z ∈ ts ∨ z ∈ us) : z ∈ uni ts us := by
  unfold uni
  rw [List.mem_append, List.mem_filter]
  by_cases c : z ∈ ts
  · exact .inl c
  · exact .inr ⟨h.resolve_left c, decide_eq_true c⟩
theorem uni_len (ts us : List Str) : (uni ts us).length ≤ ts.length + us.length := by
  unfold uni
  rw [List.length_append]
  exact Nat.add_le_add_left (List.length_filter_le _ _) _
theorem RuleOk.more {ts us l : List Str} (s : ∀ z ∈ ts, z ∈ us) (h : RuleOk ts l) : RuleOk us l := by
  rcases h with ⟨k, x, h1, h2, rfl⟩ | ⟨k, x, y, h1, h2, h3, h4, rfl⟩
  · exact .inl ⟨k, x, h1, s _ h2, rfl⟩
  · exact .inr ⟨k, x, y, h1, s _ h2, s _ h3, h4, rfl⟩
theorem Rls.more {ts us : List Str} {H : Hp} (s : ∀ z ∈ ts, z ∈ us) : ∀ {as : List Addr} {ls : List (List Str)}, Rls ts H as ls → Rls us H as ls
  | _, _, .nil => .nil
  | _, _, .cons h n r => .cons h (n.more s) (r.more s)
theorem tasks_uni {ts us : List Str} (h : TasksOk ts) (g : TasksOk us) (f : ts.length + us.length ≤ 100) : TasksOk (uni ts us) := by
  refine ⟨fun z => h.ne ?_, fun z hz => ?_, ?_, ?_⟩
  · unfold uni at z
    exact (List.append_eq_nil_iff.mp z).1
  · unfold uni at hz
    rcases List.mem_append.mp hz with q | q
    · exact h.nm z q
    · exact g.nm z (List.mem_filter.mp q).1
  · unfold uni
    refine List.nodup_append.mpr ⟨h.nd, g.nd.filter _, fun a ha b hb e => ?_⟩
    have := (List.mem_filter.mp hb).2
    rw [decide_eq_true_eq] at this
    exact this (e ▸ ha)
  · have := uni_len ts us
    omega
def sp_join (K : PySem.W.Frag) (C : Addr) : Sp := fun vs H Q _ => ∃ (a b : Addr) (ts us : List Str) (ls ms : List (List Str)), vs = [.ref a, .ref b] ∧ BkR K C H a ts ls ∧ BkR K C H b us ms ∧ TasksOk ts ∧ TasksOk us ∧ ts.length + us.length ≤ 100 ∧ ls.length ≤ 400 ∧ ms.length ≤ 400 ∧ PostB C H (uni ts us) (ls ++ ms) Q
theorem ok_Book_and (T : Tx K w mg) : FnOk P w K mg base CX0 5 T.f_Book_and T.d_Book_and ["self", "other"] (sp_join K T.C_Book) := by
  refine T.F_Book_and.ok sc_Book_and (fun vs H Q E h => ?_) (fun cdv A outer s H vs Q E hr h => ?_)
  · obtain ⟨a, b, ts, us, ls, ms, rfl, _⟩ := h
    rfl
  · obtain ⟨a, b, ts, us, ls, ms, rfl, ⟨ax, at1, ar, as, ha, hat, har, rla⟩, ⟨bx, bt, br, bs, hb, hbt, hbr, rlb⟩, oka, okb, few, f1, f2, k⟩ := h
    refine ⟨_,
    (pss_cons
      (ps_setLc (i := 2) (own := [("name", 3)]) (g := gName 3) rfl sc_Book_and.nd rfl rfl (sw_true rfl rfl rfl (by decide +kernel)) (pi_list (pe_prop (pv 1) T.cl_Book T.pr_Book_tasks (ok_Book_tasks T) (hr.mono (by decide)) T.b_Book_tasks .nil pass0 (by rfl))) (blkOk_by (N := ["self", "other", "more", "name"]) (sc := defScope s_Book_and) (own := [("name", 3)]) (by decide +kernel)) (fun _ _ _ _ _ => (pg_name (i := 3) sc_Book_and.nd rfl (.inl rfl))) (fun _ _ _ _ _ => (pts_one (pt_cmpR (r := rIn K true) op_notIn_seq (pv 3) (pe_fldK (K := K) rfl (pv 0) rfl) (by rfl)))) (fun _ _ _ _ _ => (pv 3)))
    (pss_one
      (ps_ret (pe_make T.mk_Book (ok_Book_init T) hr (by rfl) T.mg_Book T.b_Book_init .nil pass0 (pa_cons (pe_op op_cat (pe_fld (pv 0) rfl) (pv 2)) (pa_cons (pe_op op_cat (pe_fld (pv 0) rfl) (pe_prop (pv 1) T.cl_Book T.pr_Book_rules (ok_Book_rules T) (hr.mono (by decide)) T.b_Book_rules .nil pass0 (by rfl))) pa_nil)))))), ?_⟩
    have l1 := rla.len
    have l2 := rlb.len
    refine ⟨_, rfl, b, bx, _, rfl, hb, b, bx, bt, br, bt, _, rfl, hb, fl_t bt br, .of hbt, fun U hU => ?_⟩
    have sU := same_upd (o := .lst (us.map V.str)) hU
    have eU : (upd H U (.lst (us.map V.str))) U = some (.lst (us.map V.str)) := upd_same
    generalize upd H U (.lst (us.map V.str)) = H1 at sU eU
    refine ⟨U, rfl, ⟨_, .of eU⟩, fun D hD => ?_⟩
    refine lc_list (xs := us.map V.str) (fun i H' => H' D = some (.lst (((us.take i).filter fun z => decide (z ∉ ts)).map V.str)) ∧ Same H1 H') ⟨upd_same, same_upd hD⟩ (fun i H' _ h => .of (h.2 _ _ eU)) ?_ ?_
    · rintro i v H2 hi ⟨eD, s2⟩
      have hil := (List.getElem?_eq_some_iff.mp hi).1
      rw [List.length_map] at hil
      rw [List.getElem?_map] at hi
      obtain ⟨z, hz, rfl⟩ := Option.map_eq_some_iff.mp hi
      have s02 := sU.trans s2
      have et : us.take (i + 1) = us.take i ++ [z] := by rw [List.take_add_one, hz]; rfl
      refine ⟨rfl, _, rfl, _, rfl, a, T.C_Book, ax, _, _, rfl, s02 _ _ ha, T.cl_Book, T.n_Book_tasks, fl_t at1 ar, at1, _, rfl, .inl (.of (s02 _ _ hat)), rfl, flat_strs _, _, rfl, ite2 (fun c => ?_) (fun c => ?_)⟩
      · have c1 : (!inV (V.str z) (ts.map V.str)) = true := c
        rw [inV_str] at c1
        have c2 : z ∉ ts := by simpa using c1
        refine ⟨_, rfl, _, eD, ?_, ?_, fun b o e => ?_⟩
        · rw [List.length_map]
          refine small1000 (Nat.le_trans (List.length_filter_le _ _) ?_)
          rw [List.length_take]
          omega
        · rw [upd_same, et, List.filter_append, List.map_append]
          have : List.filter (fun z => decide (z ∉ ts)) [z] = [z] := filter_one (decide_eq_true c2)
          rw [this]
          rfl
        · rw [upd_ne (ne_of_none e hD)]
          exact s2 b o e
      · have c1 : ¬ (!inV (V.str z) (ts.map V.str)) = true := c
        rw [inV_str] at c1
        have c2 : z ∈ ts := by simpa using c1
        refine ⟨?_, s2⟩
        rw [eD, et, List.filter_append]
        have : List.filter (fun z => decide (z ∉ ts)) [z] = [] := filter_zero (by simpa using c2)
        rw [this, List.append_nil]
    · rintro H2 ⟨eD, s2⟩
      rw [List.length_map, List.take_length] at eD
      have s02 := sU.trans s2
      have fl1 := List.length_filter_le (fun z => decide (z ∉ ts)) us
      refine ⟨_, rfl, a, T.C_Book, ax, _, _, rfl, s02 _ _ ha, T.cl_Book, T.n_Book_tasks, fl_t at1 ar, _, rfl, at1, D, _, _, rfl, rfl, s02 _ _ hat, eD, ?_, fun p hp => ?_⟩
      · rw [List.length_map, List.length_map]; exact Nat.le_of_lt (small1000 (by omega))
      have ep : (upd H2 p (.lst (ts.map V.str ++ (us.filter fun z => decide (z ∉ ts)).map V.str))) p = some (.lst ((uni ts us).map V.str)) := by rw [upd_same, ← List.map_append]; rfl
      have sp := same_upd (o := .lst (ts.map V.str ++ (us.filter fun z => decide (z ∉ ts)).map V.str)) hp
      have s3 := s02.trans sp
      generalize upd H2 p (.lst (ts.map V.str ++ (us.filter fun z => decide (z ∉ ts)).map V.str)) = H3 at sp s3 ep
      refine ⟨_, rfl, a, T.C_Book, ax, _, _, rfl, s3 _ _ ha, T.cl_Book, T.n_Book_rules, fl_r at1 ar, _, rfl, b, bx, _, rfl, s3 _ _ hb, b, bx, bt, br, br, _, rfl, s3 _ _ hb, fl_r bt br, .of (s3 _ _ hbr), fun V1 hV => ?_⟩
      have sV := same_upd (o := .lst (bs.map V.ref)) hV
      have s4 := s3.trans sV
      refine ⟨ar, V1, _, _, rfl, rfl, s4 _ _ har, upd_same, ?_, fun p2 hp2 => ?_⟩
      · rw [List.length_map, List.length_map]; exact Nat.le_of_lt (small1000 (by omega))
      have sp2 := same_upd (o := .lst (as.map V.ref ++ bs.map V.ref)) hp2
      have s5 := s4.trans sp2
      exact mkB s5 (sp2 _ _ (sV _ _ ep)) (by rw [upd_same, ← List.map_append]) (((rlb.more fun z h => uni_in (.inr h)).keep (Same.tk s5)).app ((rla.more fun z h => uni_in (.inl h)).keep (Same.tk s5))) (tasks_uni oka okb few) k
def sp_eq (K : PySem.W.Frag) (C : Addr) : Sp := fun vs H Q _ => ∃ (a b : Addr) (ts us : List Str) (ls ms : List (List Str)), vs = [.ref a, .ref b] ∧ BkR K C H a ts ls ∧ BkR K C H b us ms ∧ TasksOk ts ∧ TasksOk us ∧ Q (.bl (PyData.eqv (tdata ts) (tdata us) && PyData.eqv (rsdata ls) (rsdata ms))) H
theorem ok_Book_eq (T : Tx K w mg) : FnOk P w K mg base CX0 1 T.f_Book_eq T.d_Book_eq ["self", "other"] (sp_eq K T.C_Book) := by
  refine T.F_Book_eq.ok sc_Book_eq (fun vs H Q E h => ?_) (fun cdv A outer s H vs Q E hr h => ?_)
  · obtain ⟨a, b, ts, us, ls, ms, rfl, _⟩ := h
    rfl
  · obtain ⟨a, b, ts, us, ls, ms, rfl, ⟨ax, at1, ar, as, ha, hat, har, rla⟩, ⟨bx, bt, br, bs, hb, hbt, hbr, rlb⟩, oka, okb, k⟩ := h
    refine ⟨_,
    (pss_one
      (ps_ret (pe_and (pe_callB call_isi (by rfl) T.m_isinstance (by decide +kernel) (pa_cons (pv 1) (pa_cons (pe_glob (v := .ref T.C_Book) (by rfl) T.mg_Book rfl) pa_nil))) (pe_and (pe_cmpR (op_eqD hr.units) (pe_fld (pv 0) rfl) (pe_fld (pv 1) rfl) (nomark _)) (pe_one (pe_cmpR (op_eqD hr.units) (pe_fld (pv 0) rfl) (pe_fld (pv 1) rfl) (nomark _))))))), ?_⟩
    have self : PySem.W.kitOne K (.ref T.C_Book) (.ref T.C_Book) = some true := if_pos (beq_self_eq_true _)
    refine ⟨_, rfl, _, _, _, _, true, rfl, .own T.C_Book, .base (.ins hb T.cl_Book T.xa_Book T.xn_Book T.xt_Book T.xm_Book), self, _, rfl, ?_⟩
    have oa := rsdata_ok oka rla.all
    have ob := rsdata_ok okb rlb.all
    refine ⟨_, rfl, a, T.C_Book, ax, _, _, rfl, ha, T.cl_Book, T.n_Book_tasks, fl_t at1 ar, _, rfl, b, T.C_Book, bx, _, _, rfl, hb, T.cl_Book, T.n_Book_tasks, fl_t bt br, tdata ts, tdata us, .lst (.of hat) dp_strs, .lst (.of hbt) dp_strs, tdata_ok oka, tdata_ok okb, _, rfl, ite2 (fun c => ?_) (fun c => ?_)⟩
    · refine ⟨_, rfl, a, T.C_Book, ax, _, _, rfl, ha, T.cl_Book, T.n_Book_rules, fl_r at1 ar, _, rfl, b, T.C_Book, bx, _, _, rfl, hb, T.cl_Book, T.n_Book_rules, fl_r bt br, rsdata ls, rsdata ms, .lst (.of har) rla.dp, .lst (.of hbr) rlb.dp, oa, ob, ?_⟩
      rw [c, Bool.true_and] at k
      exact k
    · rw [Bool.eq_false_iff.mpr c, Bool.false_and] at k
      exact k
theorem eqvAll_strs : ∀ r s : List Str, PyData.eqvAll (r.map PyData.str) (s.map PyData.str) = decide (r = s)
  | [], [] => by simp [PyData.eqvAll]
  | [], _ :: _ => by simp [PyData.eqvAll]
  | _ :: _, [] => by simp [PyData.eqvAll]
  | x :: r, y :: s => by
    rw [List.map_cons, List.map_cons]
    show (x == y && PyData.eqvAll (r.map PyData.str) (s.map PyData.str)) = decide (x :: r = y :: s)
    rw [eqvAll_strs r s]
    by_cases c : x = y
    · by_cases d : r = s
      · simp [c, d]
      · simp [c, d]
    · simp [c]
theorem eqvAll_rules : ∀ r s : List (List Str), PyData.eqvAll (r.map rdata) (s.map rdata) = decide (r = s)
  | [], [] => by simp [PyData.eqvAll]
  | [], _ :: _ => by simp [PyData.eqvAll]
  | _ :: _, [] => by simp [PyData.eqvAll]
  | x :: r, y :: s => by
    rw [List.map_cons, List.map_cons]
    show (PyData.eqvAll (x.map PyData.str) (y.map PyData.str) && PyData.eqvAll (r.map rdata) (s.map rdata)) = decide (x :: r = y :: s)
    rw [eqvAll_rules r s, eqvAll_strs x y]
    by_cases c : x = y
    · by_cases d : r = s
      · simp [c, d]
      · simp [c, d]
    · simp [c]
theorem eqv_td (ts us : List Str) : PyData.eqv (tdata ts) (tdata us) = decide (ts = us) := eqvAll_strs ts us
theorem eqv_rs (ls ms : List (List Str)) : PyData.eqv (rsdata ls) (rsdata ms) = decide (ls = ms) := eqvAll_rules ls ms
theorem Bk.parts {C : Addr} {H : Hp} {d g b : Addr} {ts : List Str} {ls : List (List Str)} (h : Bk C H d g b ts ls) : ∃ dx t r, H b = some (.ins C dx (fl t r)) ∧ BkR K C H b ts ls := by
  obtain ⟨dx, t, r, h1, h2, as, h3, h4⟩ := h
  exact ⟨dx, t, r, h1, dx, t, r, as, h1, h2.at_, h3.at_, h4⟩
theorem Bk.of {C : Addr} {H : Hp} {d g x dx p q : Addr} {as : List Addr} {ts : List Str} {ls : List (List Str)} {H0 : Hp} (hD : Deck H0 d g) (fp : H0 p = none) (fq : H0 q = none) (ex : H x = some (.ins C dx (fl p q))) (ep : H p = some (.lst (ts.map V.str))) (eq : H q = some (.lst (as.map V.ref))) (rl : Rls ts H as ls) : Bk C H d g x ts ls :=
  ⟨dx, p, q, ex, ⟨ep, (hD.new fp).1, (hD.new fp).2⟩, as, ⟨eq, (hD.new fq).1, (hD.new fq).2⟩, rl⟩
theorem Std.same {H0 H1 H2 : Hp} {d g : Addr} (s : Std H0 H1 d g) (t : Same H1 H2) : Std H0 H2 d g := ⟨s.dk.same t, s.kd.trans (Same.kd t)⟩
theorem map_snoc_ref (us : List Addr) (U : Addr) : (us ++ [U]).map V.ref = us.map V.ref ++ [V.ref U] := by rw [List.map_append]; rfl
theorem cut_d (xs : List Addr) (c : Nat) : cutV (xs.map V.ref) (some (c : Int)) none = (xs.drop c).map V.ref := by rw [cut_drop, List.map_drop]
theorem cut_t (xs : List Addr) (c : Nat) : cutV (xs.map V.ref) none (some (c : Int)) = (xs.take c).map V.ref := by rw [cut_take, List.map_take]
theorem deck_mv {H : Hp} {d g R : Addr} {o : HO} (h : Deck H d g) (n : R ≠ d ∧ R ≠ g) : Deck (upd H R o) d g := by
  obtain ⟨gs, a0, m0, g1, g2, g3⟩ := h
  exact ⟨gs, a0, m0, by rw [upd_ne n.1.symm]; exact g1, by rw [upd_ne n.2.symm]; exact g2, g3⟩
theorem fl_keeps (t r : Addr) : (fl t r).lookup ("keeps" : Str) = none := by
  unfold fl
  rw [lookup_putF, if_neg (by decide +kernel), lookup_putF, if_neg (by decide +kernel)]
  rfl
theorem fl_with (t r : Addr) : (fl t r).lookup ("with_rules" : Str) = none := by
  unfold fl
  rw [lookup_putF, if_neg (by decide +kernel), lookup_putF, if_neg (by decide +kernel)]
  rfl
theorem fl_wout (t r : Addr) : (fl t r).lookup ("without" : Str) = none := by
  unfold fl
  rw [lookup_putF, if_neg (by decide +kernel), lookup_putF, if_neg (by decide +kernel)]
  rfl
/-- all but the deck and R is as it was -/
def Kr (d g R : Addr) (H H' : Hp) : Prop := ∀ b o, H b = some o → b ≠ d → b ≠ g → b ≠ R → H' b = some o
theorem Kd.kr {d g R : Addr} {H H' : Hp} (k : Kd d g H H') : Kr d g R H H' := fun b o e n1 n2 _ => k b o e n1 n2
theorem kr_upd {d g R : Addr} {H : Hp} {o : HO} : Kr d g R H (upd H R o) := fun b u e _ _ n => by rw [upd_ne n]; exact e
theorem Kr.trans {d g R : Addr} {H H1 H2 : Hp} (a : Kr d g R H H1) (b : Kr d g R H1 H2) : Kr d g R H H2 := fun x o h n1 n2 n3 => b x o (a x o h n1 n2 n3) n1 n2 n3
theorem getD_at {l : List Str} {i : Nat} (h : i < l.length) : l.getD i "" = l[i] := by
  rw [List.getD_eq_getElem?_getD, List.getElem?_eq_getElem h]
  rfl
theorem pick_nd {ts : List Str} (nd : ts.Nodup) {os : List Int} (hin : ∀ o ∈ os, 0 ≤ o ∧ o < ts.length) (ond : os.Nodup) : (os.map fun o => ts.getD o.toNat "").Nodup := by
  unfold List.Nodup
  rw [List.pairwise_map]
  refine List.Pairwise.imp_of_mem (fun {a b} ha hb hne => ?_) ond
  obtain ⟨a0, a1⟩ := hin a ha
  obtain ⟨b0, b1⟩ := hin b hb
  intro e
  have ha2 : a.toNat < ts.length := by omega
  have hb2 : b.toNat < ts.length := by omega
  rw [getD_at ha2, getD_at hb2] at e
  have := (List.getElem_inj nd).mp e
  exact hne (by omega)
def sp_some : Sp := fun vs H Q _ => ∃ (d g p : Addr) (ts : List Str), vs = [.ref d, .ref p] ∧ Deck H d g ∧ Lat H d g p (ts.map V.str) ∧ TasksOk ts ∧ ∀ r us H', Std H H' d g → H r = none → Lat H' d g r (us.map V.str) → TasksOk us → us.length ≤ ts.length → Q (.ref r) H'
theorem ok_law_some (T : Tx K w mg) : FnOk P w K mg base CX0 3 T.f_law_some T.d_law_some ["deck", "pool"] sp_some := by
  refine T.F_law_some.ok sc_law_some (fun vs H Q E h => ?_) (fun cdv A outer s H vs Q E hr h => ?_)
  · obtain ⟨d, g, p, ts, rfl, _⟩ := h
    rfl
  · obtain ⟨d, g, p, ts, rfl, hD, lp, ok, k⟩ := h
    refine ⟨_,
    (pss_cons
      (ps_setLc (i := 2) (own := [("at", 3)]) (g := gName 3) rfl sc_law_some.nd rfl rfl (sw_true rfl rfl rfl (by decide +kernel)) (pi_list (pe_call (ok_law_order T) hr (by rfl) T.g_law_order T.F_law_order.kp T.b_law_order .nil pass0 (pa_cons (pv 0) (pa_cons (pe_callB call_len_seq (by rfl) T.m_len (by decide +kernel) (pa_cons (pv 1) pa_nil)) pa_nil)))) (blkOk_by (N := ["deck", "pool", "turned", "at"]) (sc := defScope s_law_some) (own := [("at", 3)]) (by decide +kernel)) (fun _ _ _ _ _ => (pg_name (i := 3) sc_law_some.nd rfl (.inl rfl))) (fun _ _ _ _ _ => pts_nil) (fun _ _ _ _ _ => (pe_ix (r := rIxL K) ix_list (pv 1) (pv 3) (fun _ _ => rfl))))
    (pss_one
      (ps_ret (pe_slice sl_list (pv 2) po_none (po_some (pe_op op_add pe_int (pe_call (ok_law_draw T) (hr.mono (by decide)) (by rfl) T.g_law_draw T.F_law_draw.kp T.b_law_draw .nil pass0 (pa_cons (pv 0) (pa_cons (pe_callB call_len_seq (by rfl) T.m_len (by decide +kernel) (pa_cons (pv 2) pa_nil)) pa_nil))))))))), ?_⟩
    have tfew := ok.few
    have tpos := List.length_pos_iff.mpr ok.ne
    refine ⟨_, rfl, _, rfl, p, _, rfl, .inl (.of lp.at_), d, g, _, rfl, hD, ?_, fun q os H1 s1 fq eq nqd nqg hin ol ond => ⟨q, rfl, ⟨_, .of eq⟩, fun D hDn => ?_⟩⟩
    · rw [List.length_map]; omega
    rw [List.length_map] at hin ol
    have lp1 := lp.keep s1.kd
    refine lc_list (xs := os.map V.int) (fun i H' => H' D = some (.lst (((os.take i).map fun o => ts.getD o.toNat "").map V.str)) ∧ Same H1 H') ⟨upd_same, same_upd hDn⟩ (fun i H' _ h => .of (h.2 _ _ eq)) ?_ ?_
    · rintro i v H2 hi ⟨eD, s2⟩
      have hil := (List.getElem?_eq_some_iff.mp hi).1
      rw [List.length_map] at hil
      rw [List.getElem?_map] at hi
      obtain ⟨o, ho, rfl⟩ := Option.map_eq_some_iff.mp hi
      obtain ⟨o0, o1⟩ := hin o (List.mem_of_getElem? ho)
      obtain ⟨o, rfl⟩ := Int.eq_ofNat_of_zero_le o0
      have hto : ts[o]? = some (ts.getD o "") := by rw [getD_at (by omega), List.getElem?_eq_getElem (by omega)]
      refine ⟨rfl, _, rfl, _, rfl, p, _, _, V.str (ts.getD o ""), rfl, rfl, .of (s2 _ _ lp1.at_), atI_nat (by rw [List.getElem?_map, hto]; rfl), _, eD, ?_, ?_, fun b o e => ?_⟩
      · rw [List.length_map, List.length_map, List.length_take]; exact small1000 (by omega)
      · rw [upd_same, List.take_add_one, ho, List.map_append, List.map_append]
        rfl
      · rw [upd_ne (ne_of_none e hDn)]
        exact s2 b o e
    · rintro H2 ⟨eD, s2⟩
      rw [List.length_map, List.take_length] at eD
      have nd := pick_nd ok.nd hin ond
      have nm : ∀ z ∈ os.map (fun o => ts.getD o.toNat ""), Nm z := fun z hz => by
        obtain ⟨o, ho, rfl⟩ := List.mem_map.mp hz
        obtain ⟨o0, o1⟩ := hin o ho
        have h2 : o.toNat < ts.length := by omega
        rw [getD_at h2]
        exact ok.nm _ (List.getElem_mem _)
      have wl : (os.map (fun o => ts.getD o.toNat "")).length = ts.length := by rw [List.length_map, ol]
      generalize os.map (fun o => ts.getD o.toNat "") = ws at eD nd nm wl
      have s12 : Std H H2 d g := ⟨s1.dk.same s2, s1.kd.trans (Same.kd s2)⟩
      have dD := s1.dk.new hDn
      refine ⟨_, rfl, _, rfl, _, rfl, D, _, rfl, .inl (.of eD), d, g, _, rfl, s12.dk, ?_, ?_, fun e H3 e0 e1 hD3 k3 => ⟨_, _, rfl, rfl, _, rfl, D, _, rfl, .of (k3 _ _ eD dD.1 dD.2), fun r hr' => ?_⟩⟩
      · rw [List.length_map]; omega
      · rw [List.length_map]; exact small_log (by omega)
      rw [List.length_map] at e1
      obtain ⟨e, rfl⟩ := Int.eq_ofNat_of_zero_le e0
      have s3 := s12.draw hD3 k3
      have dr := hD3.new hr'
      have es : cutV (ws.map V.str) none (some (1 + (e : Int))) = (ws.take (1 + e)).map V.str := by rw [show (1 : Int) + e = ((1 + e : Nat) : Int) by omega, cut_take, List.map_take]
      rw [es]
      refine k r (ws.take (1 + e)) _ (s3.new hr') (s3.free hr') ⟨upd_same, dr.1, dr.2⟩ ⟨fun z => ?_, fun z hz => nm z (List.mem_of_mem_take hz), nd.sublist (List.take_sublist _ _), ?_⟩ ?_
      · have := congrArg List.length z
        rw [List.length_take] at this
        have h2 : min (1 + e) ws.length = 0 := this
        omega
      · rw [List.length_take]; omega
      · rw [List.length_take]; omega
theorem uni_assoc (a b c : List Str) : uni (uni a b) c = uni a (uni b c) := by
  unfold uni
  rw [List.append_assoc, List.filter_append, List.filter_filter]
  congr 2
  refine List.filter_congr fun z _ => ?_
  rw [Bool.eq_iff_iff, Bool.and_eq_true, decide_eq_true_eq, decide_eq_true_eq, decide_eq_true_eq, List.mem_append, List.mem_filter, decide_eq_true_eq]
  constructor
  · intro h
    exact ⟨fun q => h (.inl q), fun q => h (by
      by_cases e : z ∈ a
      · exact .inl e
      · exact .inr ⟨q, e⟩)⟩
  · rintro ⟨h1, h2⟩ (q | q)
    · exact h1 q
    · exact h2 q.1
theorem look_map {f : Str → Int} {z : Str} : ∀ {ts : List Str}, z ∈ ts → look ts (ts.map f) z = f z
  | [], h => absurd h List.not_mem_nil
  | t :: ts, h => by
    show (if t = z then f t else look ts (ts.map f) z) = f z
    by_cases e : t = z
    · rw [if_pos e, e]
    · rw [if_neg e]
      refine look_map ?_
      rcases List.mem_cons.mp h with x | x
      · exact absurd x.symm e
      · exact x
theorem look_mem {z : Str} : ∀ {ts : List Str} {ds : List Int}, ts.length = ds.length → z ∈ ts → look ts ds z ∈ ds
  | [], _, _, h => absurd h List.not_mem_nil
  | _ :: _, [], h, _ => by cases h
  | t :: ts, d :: ds, hl, h => by
    show (if t = z then d else look ts ds z) ∈ d :: ds
    by_cases e : t = z
    · rw [if_pos e]; exact List.mem_cons_self
    · rw [if_neg e]
      refine List.mem_cons_of_mem _ (look_mem (Nat.succ.inj hl) ?_)
      rcases List.mem_cons.mp h with x | x
      · exact absurd x.symm e
      · exact x
theorem kept_congr {ts l : List Str} {n : Int} {f g : Str → Int} (ok : RuleOk ts l) (h : ∀ z ∈ ts, f z = g z) : keptB l n f = keptB l n g := by
  rcases ok with ⟨k, x, h1, h2, rfl⟩ | ⟨k, x, y, h1, h2, h3, h4, rfl⟩
  · have e : f (List.getD [k, x] 1 "") = g (List.getD [k, x] 1 "") := h x h2
    rcases two_is h1 with rfl | rfl
    · show decide (f x = 1) = decide (g x = 1)
      rw [h x h2]
    · show decide (f x = n) = decide (g x = n)
      rw [h x h2]
  · have e1 : f ([k, x, y].getD 1 "") = g ([k, x, y].getD 1 "") := h x h2
    have e2 : f ([k, x, y].getD 2 "") = g ([k, x, y].getD 2 "") := h y h3
    unfold keptB
    rw [e1, e2]
theorem plan_all {ts : List Str} {ls : List (List Str)} {n : Int} {ds : List Int} (hl : ds.length = ts.length) (hd : ∀ x ∈ ds, 1 ≤ x ∧ x ≤ n) : planB ts ls n ds = ls.all fun l => keptB l n (look ts ds) := by
  unfold planB
  rw [decide_eq_true hl, List.all_eq_true.mpr (fun x hx => by rw [decide_eq_true (hd x hx).1, decide_eq_true (hd x hx).2]; rfl), Bool.true_and, Bool.true_and]
theorem all_congr {p q : List Str → Bool} : ∀ {ls : List (List Str)}, (∀ l ∈ ls, p l = q l) → ls.all p = ls.all q
  | [], _ => rfl
  | l :: r, h => by
    rw [List.all_cons, List.all_cons, h l List.mem_cons_self, all_congr fun x hx => h x (List.mem_cons_of_mem _ hx)]
theorem plan_own {ts : List Str} {ls : List (List Str)} {n : Int} {f : Str → Int} (ok : ∀ l ∈ ls, RuleOk ts l) (h : ∀ z ∈ ts, 1 ≤ f z ∧ f z ≤ n) : planB ts ls n (ts.map f) = ls.all fun l => keptB l n f := by
  rw [plan_all (by rw [List.length_map]) (fun x hx => by
    obtain ⟨z, hz, rfl⟩ := List.mem_map.mp hx
    exact h z hz)]
  exact all_congr fun l hl => kept_congr (ok l hl) fun z hz => look_map hz
/-- the plans of two books joined -/
theorem plan_join {ts us : List Str} {ls ms : List (List Str)} {n : Int} {ds : List Int} (hl : ds.length = (uni ts us).length) (hd : ∀ x ∈ ds, 1 ≤ x ∧ x ≤ n) (o1 : ∀ l ∈ ls, RuleOk ts l) (o2 : ∀ l ∈ ms, RuleOk us l) :
    planB (uni ts us) (ls ++ ms) n ds = (planB ts ls n (ts.map (look (uni ts us) ds)) && planB us ms n (us.map (look (uni ts us) ds))) := by
  rw [plan_all hl hd, List.all_append, plan_own o1 fun z hz => hd _ (look_mem hl.symm (uni_in (.inl hz))), plan_own o2 fun z hz => hd _ (look_mem hl.symm (uni_in (.inr hz)))]
/-! ### errors, two books beside one another -/
theorem ok_PlanError_init (T : Tx K w mg) : FnOk P w K mg base CX0 1 T.f_PlanError_init T.d_PlanError_init ["self", "value"] (sp_einit K) := by
  refine T.F_PlanError_init.ok sc_PlanError_init (fun vs H Q E h => ?_) (fun cdv A outer s H vs Q E hr h => ?_)
  · obtain ⟨a, C, y, rfl, _⟩ := h
    rfl
  · obtain ⟨a, C, y, rfl, ox, nv, ha, k⟩ := h
    refine ⟨_,
    (pss_one
      (ps_ost (pv 0) (pv 1))), ?_⟩
    exact ⟨_, rfl, _, rfl, a, C, rfl, ox, nv, .inl ⟨ha, k⟩⟩
/-- the tasks of us that ts has too -/
def common (ts us : List Str) : List Str := us.filter fun z => decide (z ∈ ts)
theorem common_app (ts a b : List Str) : common ts (a ++ b) = common ts a ++ common ts b := List.filter_append a b
theorem common_in {ts : List Str} {z : Str} (h : z ∈ ts) (r : List Str) : common ts (z :: r) = z :: common ts r := by
  unfold common
  exact List.filter_cons_of_pos (by simpa using h)
theorem common_out {ts : List Str} {z : Str} (h : z ∉ ts) (r : List Str) : common ts (z :: r) = common ts r := by
  unfold common
  exact List.filter_cons_of_neg (by simpa using h)
def sp_beside (K : PySem.W.Frag) (C CE : Addr) : Sp := fun vs H Q E => ∃ (a b : Addr) (ts us : List Str) (ls ms : List (List Str)), vs = [.ref a, .ref b] ∧ BkR K C H a ts ls ∧ BkR K C H b us ms ∧ TasksOk ts ∧ TasksOk us ∧ ts.length + us.length ≤ 100 ∧ ls.length ≤ 400 ∧ ms.length ≤ 400 ∧
  (common ts us = [] → PostB C H (ts ++ us) (ls ++ ms) Q) ∧ (∀ z r, common ts us = z :: r → ∀ d H', H d = none → Same H H' → H' d = some (.xd [(("value" : Str), .str z)]) → E (.ref CE) (some d) H')
theorem uni_none {ts us : List Str} (h : common ts us = []) : uni ts us = ts ++ us := by
  unfold uni
  congr 1
  refine List.filter_eq_self.mpr fun z hz => decide_eq_true fun e => ?_
  have := List.filter_eq_nil_iff.mp h z hz
  exact this (decide_eq_true e)
theorem ok_Book_beside (T : Tx K w mg) : FnOk P w K mg base (L2.CX P w) 6 T.f_Book_beside T.d_Book_beside ["self", "other"] (sp_beside K T.C_Book T.C_DoubleName) := by
  refine T.F_Book_beside.okX sc_Book_beside (fun vs H Q E h => ?_) (fun cdv A outer s H vs Q E hr h => ?_)
  · obtain ⟨a, b, ts, us, ls, ms, rfl, _⟩ := h
    rfl
  · obtain ⟨a, b, ts, us, ls, ms, rfl, bka, bkb, oka, okb, few, f1, f2, k, ke⟩ := h
    refine ⟨_,
    (pss_cons
      (ps_for (passes_of rfl) rfl (pi_list (pe_prop (pv 1) T.cl_Book T.pr_Book_tasks (ok_Book_tasks T) (hr.mono (by decide)) T.b_Book_tasks .nil pass0 (by rfl))) (pg_name (i := 2) sc_Book_beside.nd rfl (.inl rfl))
        (pss_one
          (ps_if (pt_cmpR op_in_seq (pv 2) (pe_fld (pv 0) rfl) (by rfl))
            (pss_one
              (ps_raise rfl (takes_of rfl rfl rfl rfl) (pmk_oex T.ox_DoubleName T.ic_DoubleName T.ti (ok_PlanError_init T) (hr.mono (by decide)) T.b_PlanError_init .nil pass0 (by rfl) T.mg_DoubleName (pa_cons (pv 2) pa_nil))))
            pss_nil)))
    (pss_one
      (ps_ret (pe_op (op_andOwn T.sf_Book T.me_Book_and (ok_Book_and T) hr T.b_Book_and) (pv 0) (pv 1))))), ?_⟩
    obtain ⟨ax, at1, ar, as, ha, hat, har, rla⟩ := id bka
    obtain ⟨bx, bt, br, bs, hb, hbt, hbr, rlb⟩ := id bkb
    refine ⟨_, rfl, b, bx, _, rfl, hb, b, bx, bt, br, bt, _, rfl, hb, fl_t bt br, .of hbt, fun U hU => ?_⟩
    have sU := same_upd (o := .lst (us.map V.str)) hU
    have eU : (upd H U (.lst (us.map V.str))) U = some (.lst (us.map V.str)) := upd_same
    generalize upd H U (.lst (us.map V.str)) = H1 at sU eU
    refine ⟨U, rfl, ⟨_, .of eU⟩, for_list (xs := us.map V.str) (fun m σ H' => H' = H1 ∧ common ts (us.take m) = [] ∧ ∃ x2, σ = [some (.ref a), some (.ref b), x2]) ⟨rfl, rfl, _, rfl⟩ (fun m σ H' _ h => by rw [h.1]; exact .of eU) ?_ ?_⟩
    · rintro m v σ H2 hm ⟨rfl, none', x2, rfl⟩
      rw [List.getElem?_map] at hm
      obtain ⟨z, hz, rfl⟩ := Option.map_eq_some_iff.mp hm
      refine ⟨_, rfl, _, rfl, a, T.C_Book, ax, _, _, rfl, sU _ _ ha, T.cl_Book, T.n_Book_tasks, fl_t at1 ar, at1, _, rfl, .inl (.of (sU _ _ hat)), rfl, flat_strs _, _, rfl, ite2 (fun c => ?_) (fun c => ⟨rfl, ?_, _, rfl⟩)⟩
      · have h1 : inV (V.str z) (ts.map V.str) = true := c
        rw [inV_str] at h1
        have h2 : z ∈ ts := of_decide_eq_true h1
        have e : us = us.take m ++ z :: us.drop (m + 1) := by
          have hl := (List.getElem?_eq_some_iff.mp hz).1
          rw [← (List.getElem?_eq_some_iff.mp hz).2, List.getElem_cons_drop, List.take_append_drop]
        have e2 : common ts us = z :: common ts (us.drop (m + 1)) := by
          have h3 : common ts (us.take m ++ z :: us.drop (m + 1)) = z :: common ts (us.drop (m + 1)) := by
            rw [common_app, none', common_in h2]
            rfl
          rw [← e] at h3
          exact h3
        exact ⟨_, rfl, (by show 1 ≤ 1000; decide), raised (W := E) T.ox_DoubleName T.nv_DoubleName fun d H' hd sm e => ke z _ e2 d H' (sU.free hd) (sU.trans sm) e⟩
      · have h1 : ¬ inV (V.str z) (ts.map V.str) = true := c
        rw [inV_str] at h1
        have h2 : z ∉ ts := by simpa using h1
        rw [List.take_add_one, hz, common_app, none']
        exact common_out h2 []
    · rintro σ H2 ⟨rfl, none', x2, rfl⟩
      rw [List.length_map, List.take_length] at none'
      have k' := k none'
      rw [← uni_none none'] at k'
      refine ⟨_, rfl, _, rfl, a, b, ax, bx, _, _, rfl, rfl, sU _ _ ha, sU _ _ hb, a, b, ts, us, ls, ms, rfl, ⟨ax, at1, ar, as, sU _ _ ha, sU _ _ hat, sU _ _ har, rla.keep (Same.tk sU)⟩, ⟨bx, bt, br, bs, sU _ _ hb, sU _ _ hbt, sU _ _ hbr, rlb.keep (Same.tk sU)⟩, oka, okb, few, f1, f2, fun x dx p q cs H' sm fp fq ex ep eq rl => k' x dx p q cs H' (sU.trans sm) (sU.free fp) (sU.free fq) ex ep eq rl⟩
/-- ("before", a, b) for all a of ts and b of us, in order -/
def prs (ts us : List Str) : List (List Str) := ts.flatMap fun a => us.map fun b => [("before" : Str), a, b]
theorem fl_beside (t r : Addr) : (fl t r).lookup ("beside" : Str) = none := by
  unfold fl
  rw [lookup_putF, if_neg (by decide +kernel), lookup_putF, if_neg (by decide +kernel)]
  rfl
theorem fl_then (t r : Addr) : (fl t r).lookup ("then" : Str) = none := by
  unfold fl
  rw [lookup_putF, if_neg (by decide +kernel), lookup_putF, if_neg (by decide +kernel)]
  rfl
def sp_then (K : PySem.W.Frag) (C CE : Addr) : Sp := fun vs H Q E => ∃ (a b : Addr) (ts us : List Str) (ls ms : List (List Str)), vs = [.ref a, .ref b] ∧ BkR K C H a ts ls ∧ BkR K C H b us ms ∧ TasksOk ts ∧ TasksOk us ∧ ts.length + us.length ≤ 20 ∧ ls.length ≤ 100 ∧ ms.length ≤ 100 ∧
  (common ts us = [] → PostB C H (ts ++ us) ((ls ++ ms) ++ prs ts us) Q) ∧ (∀ z r, common ts us = z :: r → ∀ d H', H d = none → Same H H' → H' d = some (.xd [(("value" : Str), .str z)]) → E (.ref CE) (some d) H')
theorem ok_Book_then (T : Tx K w mg) : FnOk P w K mg base (L2.CX P w) 7 T.f_Book_then T.d_Book_then ["self", "other"] (sp_then K T.C_Book T.C_DoubleName) := by
  refine T.F_Book_then.okX sc_Book_then (fun vs H Q E h => ?_) (fun cdv A outer s H vs Q E hr h => ?_)
  · obtain ⟨a, b, ts, us, ls, ms, rfl, _⟩ := h
    rfl
  · obtain ⟨a, b, ts, us, ls, ms, rfl, bka, bkb, oka, okb, few, f1, f2, k, ke⟩ := h
    refine ⟨_,
    (pss_cons
      (ps_set (i := 2) sc_Book_then.nd rfl (.inl rfl) (pe_meth (pv 0) T.cl_Book T.me_Book_beside (ok_Book_beside T) hr T.b_Book_beside .nil (passE (takes_of rfl rfl rfl rfl)) (pa_cons (pv 1) pa_nil)))
    (pss_one
      (ps_ret (pe_meth (pv 2) T.cl_Book T.me_Book_with_rules (ok_Book_with_rules T) (hr.mono (by decide)) T.b_Book_with_rules .nil pass0 (pa_cons (pe_lc2 (own := [("one", 3), ("two", 4)]) (vs1 := [4]) (g := gName 3) (g1 := gName 4) rfl sc_Book_then.nd (pi_list (pe_fld (pv 0) rfl)) (blkOk_by (N := ["self", "other", "both", "one", "two"]) (sc := defScope s_Book_then) (own := [("one", 3), ("two", 4)]) (by decide +kernel)) (by decide) (fun _ _ _ _ _ => (pg_name (i := 3) sc_Book_then.nd rfl (.inl rfl))) (fun _ _ _ _ _ => pts_nil) (fun _ _ _ _ _ => (pi_listK (K := K) rfl (pe_prop (pv 1) T.cl_Book T.pr_Book_tasks (ok_Book_tasks T) (hr.mono (by decide)) T.b_Book_tasks .nil pass0 (by rfl)))) (fun _ _ _ _ _ => (pg_name (i := 4) sc_Book_then.nd rfl (.inl rfl))) (fun _ _ _ _ _ => pts_nil) (fun _ _ _ _ _ => (pe_tup (pa_cons pe_str (pa_cons (pv 3) (pa_cons (pv 4) pa_nil)))))) pa_nil))))), ?_⟩
    obtain ⟨ax, at1, ar, as, ha, hat, har, rla⟩ := id bka
    obtain ⟨bx, bt, br, bs, hb, hbt, hbr, rlb⟩ := id bkb
    refine ⟨_, rfl, a, ax, _, rfl, ha, fl_beside at1 ar, _, rfl, a, b, ts, us, ls, ms, rfl, bka, bkb, oka, okb, by omega, by omega, by omega, fun nc x dx p q cs H1 s1 fp fq ex ep eq rl => ?_, ke⟩
    refine ⟨_, rfl, x, dx, _, rfl, ex, fl_with p q, ?_⟩
    have okj : TasksOk (ts ++ us) := by
      rw [← uni_none nc]
      exact tasks_uni oka okb (by omega)
    have apart : ∀ y ∈ ts, ∀ z ∈ us, y ≠ z := fun y hy z hz e => by
      have := List.filter_eq_nil_iff.mp nc z hz
      exact this (decide_eq_true (e ▸ hy))
    refine ⟨_, rfl, a, T.C_Book, ax, _, _, rfl, s1 _ _ ha, T.cl_Book, T.n_Book_tasks, fl_t at1 ar, at1, rfl, ⟨_, .of (s1 _ _ hat)⟩, fun D hD => ?_⟩
    refine over_list (ys := ts.map V.str) (fun n G => ∃ es : List Addr, G D = some (.lst (es.map V.ref)) ∧ Rls (ts ++ us) G es (prs (ts.take n) us) ∧ es.length = n * us.length ∧ Same H1 G) ⟨[], upd_same, .nil, by simp, same_upd hD⟩ ?_ ?_ ?_
    · rintro n G _ ⟨es, _, _, _, sm⟩
      exact .of (sm _ _ (s1 _ _ hat))
    · rintro n y G hn ⟨es, eD, re, el, sm⟩
      rw [List.getElem?_map] at hn
      obtain ⟨y, hy, rfl⟩ := Option.map_eq_some_iff.mp hn
      have ny := (List.getElem?_eq_some_iff.mp hy).1
      have ym := List.mem_of_getElem? hy
      have s2 := s1.trans sm
      refine ⟨rfl, _, rfl, b, bx, _, rfl, s2 _ _ hb, b, bx, bt, br, bt, _, rfl, s2 _ _ hb, fl_t bt br, .of (s2 _ _ hbt), fun U hU => ⟨U, rfl, ⟨_, .of upd_same⟩, ?_⟩⟩
      have sU := same_upd (o := .lst (us.map V.str)) hU
      have eU := upd_same (H := G) (a := U) (o := .lst (us.map V.str))
      generalize upd G U (.lst (us.map V.str)) = G1 at *
      have UD : U ≠ D := (ne_of_none eD hU).symm
      refine over_list (ys := us.map V.str) (fun m G' => ∃ es : List Addr, G' D = some (.lst (es.map V.ref)) ∧ Rls (ts ++ us) G' es (prs (ts.take n) us ++ (us.take m).map fun z => [("before" : Str), y, z]) ∧ es.length = n * us.length + m ∧ Same H1 G' ∧ G' U = some (.lst (us.map V.str))) ⟨es, sU _ _ eD, ?_, el, sm.trans sU, eU⟩ ?_ ?_ ?_
      · rw [List.take_zero, List.map_nil, List.append_nil]
        exact re.keep (Same.tk sU)
      · rintro m G' _ ⟨_, _, _, _, _, e⟩
        exact .of e
      · rintro m z G' hm ⟨es, eD, re, el, sm, eU⟩
        rw [List.getElem?_map] at hm
        obtain ⟨z, hz, rfl⟩ := Option.map_eq_some_iff.mp hm
        have mz := (List.getElem?_eq_some_iff.mp hz).1
        have zm := List.mem_of_getElem? hz
        have cnt : n * us.length + m < 400 := by
          have h1 : n * us.length + us.length ≤ ts.length * us.length := by
            have := Nat.mul_le_mul_right us.length (show n + 1 ≤ ts.length from ny)
            rw [Nat.add_mul] at this
            omega
          have h2 : ts.length * us.length ≤ 20 * 20 := Nat.mul_le_mul (by omega) (by omega)
          omega
        refine ⟨rfl, _, rfl, _, rfl, (by show 3 ≤ sizeLine; decide), fun u hu => ⟨es.map V.ref, ?_, ?_, es ++ [u], ?_, ?_, ?_, ?_, ?_⟩⟩
        · exact same_upd hu _ _ eD
        · rw [List.length_map]; exact small1000 (by omega)
        · rw [upd_same, map_snoc_ref]
        · rw [List.take_add_one, hz, List.map_append, ← List.append_assoc]
          exact ((re.keep (Same.tk (same_upd hu))).snoc (l := [("before" : Str), y, z]) upd_same (.inr ⟨_, y, z, by decide +kernel, List.mem_append_left _ ym, List.mem_append_right _ zm, apart y ym z zm, rfl⟩)).keep (tk_mut (same_upd hu _ _ eD))
        · rw [List.length_append, el]; rfl
        · intro c o e
          rw [upd_ne (ne_of_none e hD)]
          exact same_upd hu _ _ (sm _ _ e)
        · rw [upd_ne UD]
          exact same_upd hu _ _ eU
      · rintro G' ⟨es, eD, re, el, sm, eU⟩
        rw [List.length_map, List.take_length] at re
        rw [List.length_map] at el
        refine ⟨es, eD, ?_, by rw [el, Nat.add_mul, Nat.one_mul], sm⟩
        rw [List.take_add_one, hy]
        unfold prs
        rw [List.flatMap_append]
        simpa [prs] using re
    · rintro H2 ⟨es, eD, re, el, s2⟩
      rw [List.length_map, List.take_length] at re
      have few2 : (prs ts us).length ≤ 400 := by
        have h2 : ts.length * us.length ≤ 20 * 20 := Nat.mul_le_mul (by omega) (by omega)
        rw [← re.len, el, List.length_map]
        exact h2
      exact ⟨x, D, ts ++ us, ls ++ ms, prs ts us, es, rfl, ⟨dx, p, q, cs, s2 _ _ ex, s2 _ _ ep, s2 _ _ eq, rl.keep (Same.tk s2)⟩, eD, re, okj, by rw [List.length_append]; omega, few2, fun x' dx' p' q' cs' H' sm fp' fq' ex' ep' eq' rl' => k nc x' dx' p' q' cs' H' ((s1.trans s2).trans sm) (s1.free (s2.free fp')) (s1.free (s2.free fq')) ex' ep' eq' rl'⟩
theorem kb_Book_beside (T : Tx K w mg) : KBn K T.d_Book_beside ["self", "other"] 1 ["other"] (fun us ws => us ++ ws) (fun vs zs => vs ++ zs) := by
  obtain ⟨oc, od, kV, doc, pm, an, cdv, ct, osl, e, _, _⟩ := T.F_Book_beside.ex
  refine ⟨fun s us ws _ h1 h2 => ?_, fun r1 r2 => r1.append r2⟩
  rw [e]
  match us, ws, h1, h2 with
  | [_], [_], _, _ => exact BindsTo.of_eq rfl
theorem kb_Book_then (T : Tx K w mg) : KBn K T.d_Book_then ["self", "other"] 1 ["other"] (fun us ws => us ++ ws) (fun vs zs => vs ++ zs) := by
  obtain ⟨oc, od, kV, doc, pm, an, cdv, ct, osl, e, _, _⟩ := T.F_Book_then.ex
  refine ⟨fun s us ws _ h1 h2 => ?_, fun r1 r2 => r1.append r2⟩
  rw [e]
  match us, ws, h1, h2 with
  | [_], [_], _, _ => exact BindsTo.of_eq rfl
/-- the rules of the book that way 0 to 3 returns -/
def rulesOf (way : Int) (ts us : List Str) (ls ms : List (List Str)) : List (List Str) := if way = 0 ∨ way = 2 then ls ++ ms else (ls ++ ms) ++ prs ts us
def sp_call (K : PySem.W.Frag) (C CE : Addr) : Sp := fun vs H Q E => ∃ (a b : Addr) (way : Int) (ts us : List Str) (ls ms : List (List Str)), vs = [.ref a, .ref b, .int way] ∧ BkR K C H a ts ls ∧ BkR K C H b us ms ∧ TasksOk ts ∧ TasksOk us ∧ ts.length + us.length ≤ 20 ∧ ls.length ≤ 100 ∧ ms.length ≤ 100 ∧
  (common ts us = [] → PostB C H (ts ++ us) (rulesOf way ts us ls ms) Q) ∧ (∀ z r, common ts us = z :: r → ∀ d H', H d = none → Same H H' → H' d = some (.xd [(("value" : Str), .str z)]) → E (.ref CE) (some d) H')
theorem ok_law_call (T : Tx K w mg) : FnOk P w K mg base (L2.CX P w) 8 T.f_law_call T.d_law_call ["one", "two", "way"] (sp_call K T.C_Book T.C_DoubleName) := by
  refine T.F_law_call.okX sc_law_call (fun vs H Q E h => ?_) (fun cdv A outer s H vs Q E hr h => ?_)
  · obtain ⟨a, b, way, ts, us, ls, ms, rfl, _⟩ := h
    rfl
  · obtain ⟨a, b, way, ts, us, ls, ms, rfl, bka, bkb, oka, okb, few, f1, f2, k, ke⟩ := h
    refine ⟨_,
    (pss_cons
      (ps_if (pt_cmpR op_eq (pv 2) pe_int (nomark _))
        (pss_one
          (ps_ret (pe_meth (pv 0) T.cl_Book T.me_Book_beside (ok_Book_beside T) (hr.mono (by decide)) T.b_Book_beside .nil (passE (takes_of rfl rfl rfl rfl)) (pa_cons (pv 1) pa_nil))))
        pss_nil)
    (pss_cons
      (ps_if (pt_cmpR op_eq (pv 2) pe_int (nomark _))
        (pss_one
          (ps_ret (pe_meth (pv 0) T.cl_Book T.me_Book_then (ok_Book_then T) hr T.b_Book_then .nil (passE (takes_of rfl rfl rfl rfl)) (pa_cons (pv 1) pa_nil))))
        pss_nil)
    (pss_cons
      (ps_if (pt_cmpR op_eq (pv 2) pe_int (nomark _))
        (pss_one
          (ps_ret (pe_methN0 (pv 0) T.cl_Book T.me_Book_beside (ok_Book_beside T) (hr.mono (by decide)) (kb_Book_beside T) (passE (takes_of rfl rfl rfl rfl)) (pk_cons (pv 1) pk_nil))))
        pss_nil)
    (pss_one
      (ps_ret (pe_methN0 (pv 0) T.cl_Book T.me_Book_then (ok_Book_then T) hr (kb_Book_then T) (passE (takes_of rfl rfl rfl rfl)) (pk_cons (pv 1) pk_nil))))))), ?_⟩
    obtain ⟨ax, at1, ar, as, ha, hat, har, rla⟩ := id bka
    unfold rulesOf at k
    refine ⟨_, rfl, rfl, _, rfl, ite2 (fun c => ?_) (fun c => ?_)⟩
    · have e : way = 0 := V.int.inj (of_decide_eq_true c)
      rw [if_pos (.inl e)] at k
      exact ⟨_, rfl, a, ax, _, rfl, ha, fl_beside at1 ar, _, rfl, a, b, ts, us, ls, ms, rfl, bka, bkb, oka, okb, by omega, by omega, by omega, k, ke⟩
    have n0 : ¬ way = 0 := fun e => c (decide_eq_true (congrArg V.int e))
    refine ⟨_, rfl, rfl, _, rfl, ite2 (fun c => ?_) (fun c => ?_)⟩
    · have e : way = 1 := V.int.inj (of_decide_eq_true c)
      rw [if_neg (by omega)] at k
      exact ⟨_, rfl, a, ax, _, rfl, ha, fl_then at1 ar, _, rfl, a, b, ts, us, ls, ms, rfl, bka, bkb, oka, okb, by omega, by omega, by omega, k, ke⟩
    refine ⟨_, rfl, rfl, _, rfl, ite2 (fun c => ?_) (fun c => ?_)⟩
    · have e : way = 2 := V.int.inj (of_decide_eq_true c)
      rw [if_pos (.inr e)] at k
      exact ⟨_, rfl, a, ax, _, rfl, ha, fl_beside at1 ar, _, rfl, rfl, a, b, ts, us, ls, ms, rfl, bka, bkb, oka, okb, by omega, by omega, by omega, k, ke⟩
    have n2 : ¬ way = 2 := fun e => c (decide_eq_true (congrArg V.int e))
    rw [if_neg (by omega)] at k
    exact ⟨_, rfl, a, ax, _, rfl, ha, fl_then at1 ar, _, rfl, rfl, a, b, ts, us, ls, ms, rfl, bka, bkb, oka, okb, by omega, by omega, by omega, k, ke⟩
def firstOf : List Str → V
  | [] => .non
  | z :: _ => .str z
def sp_told (K : PySem.W.Frag) (C : Addr) (f : List Str → V) : Sp := fun vs H Q _ => ∃ (a b : Addr) (way : Int) (ts us : List Str) (ls ms : List (List Str)), vs = [.ref a, .ref b, .int way] ∧ BkR K C H a ts ls ∧ BkR K C H b us ms ∧ TasksOk ts ∧ TasksOk us ∧ ts.length + us.length ≤ 20 ∧ ls.length ≤ 100 ∧ ms.length ≤ 100 ∧
  ∀ H', Same H H' → Q (f (common ts us)) H'
theorem ok_law_raised (T : Tx K w mg) : FnOk P w K mg base CX0 9 T.f_law_raised T.d_law_raised ["one", "two", "way"] (sp_told K T.C_Book firstOf) := by
  refine T.F_law_raised.ok sc_law_raised (fun vs H Q E h => ?_) (fun cdv A outer s H vs Q E hr h => ?_)
  · obtain ⟨a, b, way, ts, us, ls, ms, rfl, _⟩ := h
    rfl
  · obtain ⟨a, b, way, ts, us, ls, ms, rfl, bka, bkb, oka, okb, few, f1, f2, k⟩ := h
    refine ⟨_,
    (pss_cons
      (ps_set (i := 3) sc_law_raised.nd rfl (.inl rfl) pe_non)
    (pss_cons
      (ps_try_as (i := 4) rfl rfl sc_law_raised.nd rfl rfl ⟨rfl, by decide, .inl T.mg_DoubleName⟩ takes0 (fun W pn xe tk po =>
        (pss_one
          (ps_expr (pe_callS (ok_law_call T) hr (by rfl) T.g_law_call T.F_law_call.kp T.b_law_call (fun σ => passAt tk σ) (pa_cons (pv 0) (pa_cons (pv 1) (pa_cons (pv 2) pa_nil)))))))
      (fun a oe cls d pn hz hf =>
        (pss_one
          (ps_set (i := 3) sc_law_raised.nd rfl (.inl rfl) (pe_xf T.xf_DoubleName T.nv_DoubleName hz hf (pv 4))))))
    (pss_one
      (ps_ret (pv 3))))), ?_⟩
    refine ⟨_, rfl, _, rfl, _, rfl, a, b, way, ts, us, ls, ms, rfl, bka, bkb, oka, okb, few, f1, f2, fun nc x dx p q cs H1 s1 fp fq ex ep eq rl => ?_, fun z r cz d H1 hd s1 e => ⟨true, T.em_DoubleName_DoubleName, fun _ y hy => ?_, fun q => Bool.noConfusion q⟩⟩
    · rw [nc] at k
      exact ⟨_, rfl, k H1 s1⟩
    · rw [cz] at k
      refine ⟨_, rfl, rfl, rfl, d, _, .str z, rfl, e, by simp [List.lookup], ?_⟩
      exact ⟨_, rfl, k H1 s1⟩
def anyOf : List Str → V
  | [] => .bl false
  | _ :: _ => .bl true
theorem ok_law_based (T : Tx K w mg) : FnOk P w K mg base CX0 9 T.f_law_based T.d_law_based ["one", "two", "way"] (sp_told K T.C_Book anyOf) := by
  refine T.F_law_based.ok sc_law_based (fun vs H Q E h => ?_) (fun cdv A outer s H vs Q E hr h => ?_)
  · obtain ⟨a, b, way, ts, us, ls, ms, rfl, _⟩ := h
    rfl
  · obtain ⟨a, b, way, ts, us, ls, ms, rfl, bka, bkb, oka, okb, few, f1, f2, k⟩ := h
    refine ⟨_,
    (pss_cons
      (ps_set (i := 3) sc_law_based.nd rfl (.inl rfl) pe_bl)
    (pss_cons
      (ps_try_as (i := 4) rfl rfl sc_law_based.nd rfl rfl ⟨rfl, by decide, .inl T.mg_PlanError⟩ takes0 (fun W pn xe tk po =>
        (pss_one
          (ps_expr (pe_callS (ok_law_call T) hr (by rfl) T.g_law_call T.F_law_call.kp T.b_law_call (fun σ => passAt tk σ) (pa_cons (pv 0) (pa_cons (pv 1) (pa_cons (pv 2) pa_nil)))))))
      (fun a oe cls d pn hz hf =>
        (pss_one
          (ps_set (i := 3) sc_law_based.nd rfl (.inl rfl) (pe_callB (call_isX T.xc_DoubleName hz hf) (by rfl) T.m_isinstance (by decide +kernel) (pa_cons (pv 4) (pa_cons (pe_glob (v := .ref T.C_DoubleName) (by rfl) T.mg_DoubleName rfl) pa_nil)))))))
    (pss_one
      (ps_ret (pv 3))))), ?_⟩
    refine ⟨_, rfl, _, rfl, _, rfl, a, b, way, ts, us, ls, ms, rfl, bka, bkb, oka, okb, few, f1, f2, fun nc x dx p q cs H1 s1 fp fq ex ep eq rl => ?_, fun z r cz d H1 hd s1 e => ⟨true, T.em_DoubleName_PlanError, fun _ y hy => ?_, fun q => Bool.noConfusion q⟩⟩
    · rw [nc] at k
      exact ⟨_, rfl, k H1 s1⟩
    · rw [cz] at k
      refine ⟨_, rfl, d, _, V.ref T.C_DoubleName, .ref T.C_DoubleName, true, rfl, rfl, e, rfl, fun u r => r, if_pos (beq_self_eq_true _), ?_⟩
      exact ⟨_, rfl, k H1 s1⟩
/-! ### plans of two books beside one another -/
theorem look_left {us : List Str} {z : Str} : ∀ {ts : List Str} {ds : List Int}, ts.length ≤ ds.length → z ∈ ts → look (ts ++ us) ds z = look ts (ds.take ts.length) z
  | [], _, _, h => absurd h List.not_mem_nil
  | _ :: _, [], h, _ => by simp at h
  | t :: ts, d :: ds, h, hz => by
    show (if t = z then d else look (ts ++ us) ds z) = (if t = z then d else look ts (ds.take ts.length) z)
    by_cases c : t = z
    · rw [if_pos c, if_pos c]
    · rw [if_neg c, if_neg c]
      exact look_left (Nat.le_of_succ_le_succ h) ((List.mem_cons.mp hz).resolve_left fun e => c e.symm)
theorem look_right {us : List Str} {z : Str} : ∀ {ts : List Str} {ds : List Int}, ts.length ≤ ds.length → z ∉ ts → look (ts ++ us) ds z = look us (ds.drop ts.length) z
  | [], _, _, _ => rfl
  | _ :: _, [], h, _ => by simp at h
  | t :: ts, d :: ds, h, hz => by
    show (if t = z then d else look (ts ++ us) ds z) = look us (ds.drop ts.length) z
    rw [if_neg fun e => hz (by rw [e]; exact List.mem_cons_self)]
    exact look_right (Nat.le_of_succ_le_succ h) fun m => hz (List.mem_cons_of_mem _ m)
theorem look_onto {x : Int} : ∀ {ts : List Str} {ds : List Int}, ts.length = ds.length → ts.Nodup → x ∈ ds → ∃ z ∈ ts, look ts ds z = x
  | _, [], _, _, h => absurd h List.not_mem_nil
  | [], _ :: _, h, _, _ => by simp at h
  | t :: ts, d :: ds, h, nd, hx => by
    rcases List.mem_cons.mp hx with e | m
    · exact ⟨t, List.mem_cons_self, by rw [e]; exact if_pos rfl⟩
    · obtain ⟨n1, n2⟩ := List.nodup_cons.mp nd
      obtain ⟨z, hz, e⟩ := look_onto (Nat.succ.inj h) n2 m
      refine ⟨z, List.mem_cons_of_mem _ hz, ?_⟩
      show (if t = z then d else look ts ds z) = x
      rw [if_neg (fun q : t = z => n1 (by rw [q]; exact hz)), e]
theorem plan_two {ts us : List Str} {ls ms : List (List Str)} {n : Int} {ds : List Int} (hl : ds.length = ts.length + us.length) (nc : ∀ y ∈ ts, ∀ z ∈ us, y ≠ z) (o1 : ∀ l ∈ ls, RuleOk ts l) (o2 : ∀ l ∈ ms, RuleOk us l) :
    planB (ts ++ us) (ls ++ ms) n ds = (planB ts ls n (ds.take ts.length) && planB us ms n (ds.drop ts.length)) := by
  have e1 : (ls.all fun l => keptB l n (look (ts ++ us) ds)) = ls.all fun l => keptB l n (look ts (ds.take ts.length)) := all_congr fun l h => kept_congr (o1 l h) fun z hz => look_left (by omega) hz
  have e2 : (ms.all fun l => keptB l n (look (ts ++ us) ds)) = ms.all fun l => keptB l n (look us (ds.drop ts.length)) := all_congr fun l h => kept_congr (o2 l h) fun z hz => look_right (by omega) fun m => nc z m z hz rfl
  have e3 : (ds.all fun d => decide (1 ≤ d) && decide (d ≤ n)) = (((ds.take ts.length).all fun d => decide (1 ≤ d) && decide (d ≤ n)) && (ds.drop ts.length).all fun d => decide (1 ≤ d) && decide (d ≤ n)) := by
    rw [← List.all_append, List.take_append_drop]
  unfold planB
  rw [List.all_append, e1, e2, e3, decide_eq_true (show ds.length = (ts ++ us).length by rw [List.length_append]; exact hl), decide_eq_true (show (ds.take ts.length).length = ts.length by rw [List.length_take]; omega), decide_eq_true (show (ds.drop ts.length).length = us.length by rw [List.length_drop]; omega)]
  generalize ((ds.take ts.length).all fun d => decide (1 ≤ d) && decide (d ≤ n)) = A
  generalize ((ds.drop ts.length).all fun d => decide (1 ≤ d) && decide (d ≤ n)) = B
  generalize (ls.all fun l => keptB l n (look ts (ds.take ts.length))) = L
  generalize (ms.all fun l => keptB l n (look us (ds.drop ts.length))) = M
  cases A <;> cases B <;> cases L <;> cases M <;> rfl
theorem plan_more {ts : List Str} {ls ms : List (List Str)} {n : Int} {ds : List Int} : planB ts (ls ++ ms) n ds = (planB ts ls n ds && ms.all fun l => keptB l n (look ts ds)) := by
  unfold planB
  rw [List.all_append, ← Bool.and_assoc]
theorem all_prs {ts us : List Str} {n : Int} {f : Str → Int} : ((prs ts us).all fun l => keptB l n f) = true ↔ ∀ y ∈ ts, ∀ z ∈ us, f y < f z := by
  rw [List.all_eq_true]
  constructor
  · intro h y hy z hz
    have h1 : keptB [("before" : Str), y, z] n f = true := h _ (List.mem_flatMap.mpr ⟨y, hy, List.mem_map_of_mem hz⟩)
    have h2 : decide (0 < f z - f y) = true := h1
    have := of_decide_eq_true h2
    omega
  · intro h l hl
    obtain ⟨y, hy, hl⟩ := List.mem_flatMap.mp hl
    obtain ⟨z, hz, rfl⟩ := List.mem_map.mp hl
    have := h y hy z hz
    show decide (0 < f z - f y) = true
    exact decide_eq_true (by omega)
theorem plan_then {ts us : List Str} {ls ms : List (List Str)} {n m1 m2 : Int} {ds : List Int} (hl : ds.length = ts.length + us.length) (nc : ∀ y ∈ ts, ∀ z ∈ us, y ≠ z) (o1 : ∀ l ∈ ls, RuleOk ts l) (o2 : ∀ l ∈ ms, RuleOk us l) (n1 : ts.Nodup) (n2 : us.Nodup)
    (i1 : m1 ∈ ds.take ts.length) (x1 : ∀ y ∈ ds.take ts.length, y ≤ m1) (i2 : m2 ∈ ds.drop ts.length) (x2 : ∀ y ∈ ds.drop ts.length, m2 ≤ y) :
    planB (ts ++ us) ((ls ++ ms) ++ prs ts us) n ds = ((planB ts ls n (ds.take ts.length) && planB us ms n (ds.drop ts.length)) && decide (m1 < m2)) := by
  rw [plan_more, plan_two hl nc o1 o2]
  congr 1
  have l1 : ts.length = (ds.take ts.length).length := by rw [List.length_take]; omega
  have l2 : us.length = (ds.drop ts.length).length := by rw [List.length_drop]; omega
  rw [Bool.eq_iff_iff, all_prs, decide_eq_true_iff]
  constructor
  · intro h
    obtain ⟨y, hy, ey⟩ := look_onto l1 n1 i1
    obtain ⟨z, hz, ez⟩ := look_onto l2 n2 i2
    have := h y hy z hz
    rw [look_left (by omega) hy, look_right (by omega) fun m => nc z m z hz rfl, ey, ez] at this
    exact this
  · intro h y hy z hz
    rw [look_left (by omega) hy, look_right (by omega) fun m => nc z m z hz rfl]
    have a1 := x1 _ (look_mem l1 hy)
    have a2 := x2 _ (look_mem l2 hz)
    omega
/-! ### days of both -/
theorem apart_of {ts us : List Str} (nc : common ts us = []) : ∀ y ∈ ts, ∀ z ∈ us, y ≠ z := fun y hy z hz e => by
  have := List.filter_eq_nil_iff.mp nc z hz
  exact this (decide_eq_true (e ▸ hy))
theorem prs_len (us : List Str) : ∀ ts : List Str, (prs ts us).length = ts.length * us.length
  | [] => by simp [prs]
  | t :: r => by
    have ih := prs_len us r
    unfold prs at ih ⊢
    rw [List.flatMap_cons, List.length_append, List.length_map, ih, List.length_cons, Nat.add_mul]
    omega
def sp_thenr (K : PySem.W.Frag) (C : Addr) : Sp := fun vs H Q _ => ∃ (d g M F S x0 x1 x2 x3 b1 t1 r1 b2 t2 r2 : Addr) (ts us : List Str) (ls ms : List (List Str)) (as cs : List Addr), vs = [.ref d, .ref M, .ref F, .ref S] ∧ Deck H d g ∧ Lat H d g M ([x0, x1, x2, x3].map V.ref) ∧
  H F = some (.tup [.ref b1, .ref t1, .ref r1]) ∧ H S = some (.tup [.ref b2, .ref t2, .ref r2]) ∧ Bk C H d g x0 (ts ++ us) (ls ++ ms) ∧ Bk C H d g x1 (ts ++ us) ((ls ++ ms) ++ prs ts us) ∧
  Lat H d g t1 (ts.map V.str) ∧ Lat H d g r1 (as.map V.ref) ∧ Rls ts H as ls ∧ Lat H d g t2 (us.map V.str) ∧ Lat H d g r2 (cs.map V.ref) ∧ Rls us H cs ms ∧ TasksOk ts ∧ TasksOk us ∧ common ts us = [] ∧ ts.length + us.length ≤ 20 ∧ ls.length ≤ 100 ∧ ms.length ≤ 100 ∧
  ∀ H', Std H H' d g → Q (.bl true) H'
theorem andV2 {B1 B2 : Bool} {i : Nat} {σ : List (Option V)} {H : Hp} {Q : VK} (h : σ[i]? = some (some (V.bl B2))) (k : Q (.bl (B1 && B2)) H) : if B1 = true then tVar i σ H Q else Q (.bl false) H := by
  cases B1
  · exact iteF k
  · exact iteT ⟨_, h, k⟩
theorem andV3 {B1 B2 B3 : Bool} {i j : Nat} {σ : List (Option V)} {H : Hp} {Q : VK} (h : σ[i]? = some (some (V.bl B2))) (h2 : σ[j]? = some (some (V.bl B3))) (k : Q (.bl (B1 && (B2 && B3))) H) : if B1 = true then tAndV (tVar i) (tVar j) σ H Q else Q (.bl false) H := by
  cases B1
  · exact iteF k
  · refine iteT ⟨_, h, _, rfl, ?_⟩
    cases B2
    · exact iteF k
    · exact iteT ⟨_, h2, k⟩
set_option maxHeartbeats 1600000 in
theorem ok_law_then_right (T : Tx K w mg) : FnOk P w K mg base CX0 4 T.f_law_then_right T.d_law_then_right ["deck", "made", "first", "second"] (sp_thenr K T.C_Book) := by
  refine T.F_law_then_right.ok sc_law_then_right (fun vs H Q E h => ?_) (fun cdv A outer s H vs Q E hr h => ?_)
  · obtain ⟨d, g, M, F, S, x0, x1, x2, x3, b1, t1, r1, b2, t2, r2, ts, us, ls, ms, as, cs, rfl, _⟩ := h
    rfl
  · obtain ⟨d, g, M, F, S, x0, x1, x2, x3, b1, t1, r1, b2, t2, r2, ts, us, ls, ms, as, cs, rfl, hD, lM, eF, eS, bk0, bk1, lt1, lr1, rl1, lt2, lr2, rl2, ok1, ok2, nc, few, f1, f2, k⟩ := h
    refine ⟨_,
    (pss_cons
      (ps_set (i := 4) sc_law_then_right.nd rfl (.inl rfl) (pe_call (ok_law_number T) hr (by rfl) T.g_law_number T.F_law_number.kp T.b_law_number .nil pass0 (pa_cons (pv 0) pa_nil)))
    (pss_cons
      (ps_set (i := 5) sc_law_then_right.nd rfl (.inl rfl) (pe_callB call_len_seq (by rfl) T.m_len (by decide +kernel) (pa_cons (pe_ix ix_tup (pv 2) pe_int (fun _ _ => rfl)) pa_nil)))
    (pss_cons
      (ps_set (i := 6) sc_law_then_right.nd rfl (.inl rfl) (pe_call (ok_law_days T) hr (by rfl) T.g_law_days T.F_law_days.kp T.b_law_days .nil pass0 (pa_cons (pv 0) (pa_cons (pv 4) (pa_cons (pe_op op_add (pv 5) (pe_callB call_len_seq (by rfl) T.m_len (by decide +kernel) (pa_cons (pe_ix ix_tup (pv 3) pe_int (fun _ _ => rfl)) pa_nil))) pa_nil)))))
    (C8.pss_cut
      (ps_if (pt_cmpR op_eq (pe_call (ok_law_draw T) (hr.mono (by decide)) (by rfl) T.g_law_draw T.F_law_draw.kp T.b_law_draw .nil pass0 (pa_cons (pv 0) (pa_cons pe_int pa_nil))) pe_int (nomark _))
        (pss_one
          (ps_set (i := 6) sc_law_then_right.nd rfl (.inl rfl) (pe_callB cr_sorted (by rfl) T.m_sorted (by decide +kernel) (pa_cons (pv 6) pa_nil))))
        pss_nil)
    (pss_cons
      (ps_set (i := 7) sc_law_then_right.nd rfl (.inl rfl) (pe_call (ok_law_is_plan T) (hr.mono (by decide)) (by rfl) T.g_law_is_plan T.F_law_is_plan.kp T.b_law_is_plan .nil pass0 (pa_cons (pe_ix ix_tup (pv 2) pe_int (fun _ _ => rfl)) (pa_cons (pe_ix ix_tup (pv 2) pe_int (fun _ _ => rfl)) (pa_cons (pv 4) (pa_cons (pe_slice sl_list (pv 6) po_none (po_some (pv 5))) pa_nil))))))
    (pss_cons
      (ps_set (i := 8) sc_law_then_right.nd rfl (.inl rfl) (pe_call (ok_law_is_plan T) (hr.mono (by decide)) (by rfl) T.g_law_is_plan T.F_law_is_plan.kp T.b_law_is_plan .nil pass0 (pa_cons (pe_ix ix_tup (pv 3) pe_int (fun _ _ => rfl)) (pa_cons (pe_ix ix_tup (pv 3) pe_int (fun _ _ => rfl)) (pa_cons (pv 4) (pa_cons (pe_slice sl_list (pv 6) (po_some (pv 5)) po_none) pa_nil))))))
    (pss_cons
      (ps_set (i := 9) sc_law_then_right.nd rfl (.inl rfl) (pe_cmpR op_lt (pe_callB (cr_max rfl) (by rfl) T.m_max (by decide +kernel) (pa_cons (pe_slice sl_list (pv 6) po_none (po_some (pv 5))) pa_nil)) (pe_callB (cr_min rfl) (by rfl) T.m_min (by decide +kernel) (pa_cons (pe_slice sl_list (pv 6) (po_some (pv 5)) po_none) pa_nil)) (nomark _)))
    (pss_cons
      (ps_if (pt_cmpR op_ne (pe_meth (pe_ix ix_list (pv 1) pe_int (fun _ _ => rfl)) T.cl_Book T.me_Book_keeps (ok_Book_keeps T) (hr.mono (by decide)) T.b_Book_keeps .nil pass0 (pa_cons (pv 4) (pa_cons (pe_callTy call_list_of (by rfl) T.m_list (by decide +kernel) (pa_cons (pv 6) pa_nil)) pa_nil))) (pe_and (pv 7) (pe_one (pv 8))) (nomark _))
        (pss_one
          (ps_ret pe_bl))
        pss_nil)
    (pss_cons
      (ps_set (i := 10) sc_law_then_right.nd rfl (.inl rfl) (pe_meth (pe_ix ix_list (pv 1) pe_int (fun _ _ => rfl)) T.cl_Book T.me_Book_keeps (ok_Book_keeps T) (hr.mono (by decide)) T.b_Book_keeps .nil pass0 (pa_cons (pv 4) (pa_cons (pe_callTy call_list_of (by rfl) T.m_list (by decide +kernel) (pa_cons (pv 6) pa_nil)) pa_nil))))
    (pss_one
      (ps_ret (pe_and (pe_callB call_isi (by rfl) T.m_isinstance (by decide +kernel) (pa_cons (pv 10) (pa_cons (pe_bltn (v := .ty "bool") (by rfl) T.m_bool (by decide +kernel) rfl) pa_nil))) (pe_one (pe_cmpR op_eq (pv 10) (pe_and (pv 7) (pe_and (pv 8) (pe_one (pv 9)))) (nomark _))))))))))))))), ?_⟩
    have a1 := rl1.len
    have a2 := rl2.len
    have p1 : 0 < ts.length := List.length_pos_iff.mpr ok1.ne
    have p2 : 0 < us.length := List.length_pos_iff.mpr ok2.ne
    refine ⟨_, rfl, d, g, rfl, hD, fun n H1 n0 n1 s1 => ?_⟩
    have tk1 := Kd.tk s1.kd hD
    refine ⟨_, rfl, F, _, _, V.ref t1, rfl, rfl, .of (tk1 _ _ eF), atI_nat (j := 1) rfl, t1, _, rfl, .inl (.of (lt1.keep s1.kd).at_), ?_⟩
    refine ⟨_, rfl, _, rfl, _, rfl, _, rfl, S, _, _, V.ref t2, rfl, rfl, .of (tk1 _ _ eS), atI_nat (j := 1) rfl, t2, _, rfl, .inl (.of (lt2.keep s1.kd).at_), _, _, rfl, rfl, d, g, n, (ts.map V.str).length + (us.map V.str).length, rfl, s1.dk, n0, ?_, fun p ds H2 s2 fp lp dl din => ?_⟩
    · rw [List.length_map, List.length_map]; omega
    rw [List.length_map, List.length_map] at dl
    have s12 := s1.trans s2
    refine ⟨fun σ' H' => ∃ (p : Addr) (ds : List Int), σ' = [some (.ref d), some (.ref M), some (.ref F), some (.ref S), some (.int n), some (.int ((ts.map V.str).length : Nat)), some (.ref p), none, none, none, none] ∧ Std H H' d g ∧ Lat H' d g p (ds.map V.int) ∧ ds.length = ts.length + us.length, ?_, ?_⟩
    · refine ⟨_, rfl, d, g, 2, rfl, s12.dk, by decide, by decide +kernel, fun e H3 e0 e1 hD3 k3 => ⟨rfl, _, rfl, ?_⟩⟩
      have s3 := s12.draw hD3 k3
      have lp3 := lp.keep k3
      refine ite2 (fun c => ?_) (fun c => ⟨p, ds, rfl, s3, lp3, dl⟩)
      refine ⟨_, rfl, p, ds, rfl, .of lp3.at_, by omega, fun es P hp _ hP => ?_⟩
      exact ⟨P, es, rfl, s3.new hP, Lat.new hD3 hP, by rw [hp.length_eq]; exact dl⟩
    clear lp dl din fp s2 s12 tk1 s1
    clear ds p H1 H2
    rintro σ H2 ⟨p, ds, rfl, s2, lp, dl⟩
    have tk2 := Kd.tk s2.kd hD
    have eF2 := tk2 _ _ eF
    have eS2 := tk2 _ _ eS
    have hD2 := s2.dk
    have lt12 := lt1.keep s2.kd
    have lr12 := lr1.keep s2.kd
    have rl12 := rl1.keep tk2
    have lt22 := lt2.keep s2.kd
    have lr22 := lr2.keep s2.kd
    have rl22 := rl2.keep tk2
    have lM2 := lM.keep s2.kd
    have bk02 := bk0.keep hD s2.kd
    have bk12 := bk1.keep hD s2.kd
    clear tk2 eF eS lt1 lr1 rl1 lt2 lr2 rl2 lM bk0 bk1
    -- one
    refine ⟨_, rfl, F, _, _, V.ref t1, rfl, rfl, .of eF2, atI_nat (j := 1) rfl, _, rfl, F, _, _, V.ref r1, rfl, rfl, .of eF2, atI_nat (j := 2) rfl, _, rfl, _, rfl, _, rfl, _, rfl, p, _, rfl, .of lp.at_, fun L1 hL1 => ?_⟩
    rw [cut_take, ← List.map_take, List.length_map]
    have y1 := same_upd (o := .lst ((ds.take ts.length).map V.int)) hL1
    have eL1 := upd_same (H := H2) (a := L1) (o := .lst ((ds.take ts.length).map V.int))
    generalize upd H2 L1 (.lst ((ds.take ts.length).map V.int)) = H3 at *
    refine ⟨t1, r1, L1, n, ts, as, ls, ds.take ts.length, rfl, .of (y1 _ _ lt12.at_), .of (y1 _ _ lr12.at_), rl12.keep (Same.tk y1), .of eL1, ?_, ?_, fun H4 y2 => ?_⟩
    · rw [List.length_take]; omega
    · omega
    have y12 := y1.trans y2
    -- two
    refine ⟨_, rfl, S, _, _, V.ref t2, rfl, rfl, .of (y12 _ _ eS2), atI_nat (j := 1) rfl, _, rfl, S, _, _, V.ref r2, rfl, rfl, .of (y12 _ _ eS2), atI_nat (j := 2) rfl, _, rfl, _, rfl, _, rfl, _, rfl, p, _, rfl, .of (y12 _ _ lp.at_), fun L2 hL2 => ?_⟩
    rw [cut_drop, ← List.map_drop]
    have y3 := same_upd (o := .lst ((ds.drop ts.length).map V.int)) hL2
    have eL2 := upd_same (H := H4) (a := L2) (o := .lst ((ds.drop ts.length).map V.int))
    generalize upd H4 L2 (.lst ((ds.drop ts.length).map V.int)) = H5 at *
    have y13 := y12.trans y3
    refine ⟨t2, r2, L2, n, us, cs, ms, ds.drop ts.length, rfl, .of (y13 _ _ lt22.at_), .of (y13 _ _ lr22.at_), rl22.keep (Same.tk y13), .of eL2, ?_, ?_, fun H6 y4 => ?_⟩
    · rw [List.length_drop]; omega
    · omega
    have y14 := y13.trans y4
    -- apart
    refine ⟨_, rfl, _, rfl, _, rfl, p, _, rfl, .of (y14 _ _ lp.at_), fun L3 hL3 => ?_⟩
    rw [cut_take, ← List.map_take]
    have y5 := same_upd (o := .lst ((ds.take ts.length).map V.int)) hL3
    have eL3 := upd_same (H := H6) (a := L3) (o := .lst ((ds.take ts.length).map V.int))
    generalize upd H6 L3 (.lst ((ds.take ts.length).map V.int)) = H7 at *
    refine ⟨L3, ds.take ts.length, rfl, .of eL3, by rw [List.length_take]; omega, fun m1 i1 u1 => ?_⟩
    refine ⟨_, rfl, _, rfl, _, rfl, p, _, rfl, .of ((y14.trans y5) _ _ lp.at_), fun L4 hL4 => ?_⟩
    rw [cut_drop, ← List.map_drop]
    have y6 := same_upd (o := .lst ((ds.drop ts.length).map V.int)) hL4
    have eL4 := upd_same (H := H7) (a := L4) (o := .lst ((ds.drop ts.length).map V.int))
    generalize upd H7 L4 (.lst ((ds.drop ts.length).map V.int)) = H8 at *
    refine ⟨L4, ds.drop ts.length, rfl, .of eL4, by rw [List.length_drop]; omega, fun m2 i2 u2 => ⟨_, _, rfl, rfl, ?_⟩⟩
    have y16 := (y14.trans y5).trans y6
    have hD8 := hD2.same y16
    have pj := plan_two (n := n) dl (apart_of nc) rl12.all rl22.all
    have pt := plan_then (n := n) dl (apart_of nc) rl12.all rl22.all ok1.nd ok2.nd i1 u1 i2 u2
    have okj : TasksOk (ts ++ us) := by
      rw [← uni_none nc]
      exact tasks_uni ok1 ok2 (by omega)
    have ll : (ts ++ us).length ≤ 1000 := by rw [List.length_append]; omega
    obtain ⟨dx, q1, q2, ex, kr⟩ := (bk02.keep hD2 (Same.kd y16)).parts (K := K)
    have lM8 := lM2.keep (Same.kd y16)
    have lp8 := lp.keep (Same.kd y16)
    refine ⟨_, rfl, M, _, _, V.ref x0, rfl, rfl, .of lM8.at_, atI_nat (j := 0) rfl, x0, dx, _, rfl, ex, fl_keeps q1 q2, _, rfl, _, rfl, p, _, rfl, .inl (.of lp8.at_), fun L5 hL5 => ?_⟩
    have y7 := same_upd (o := .lst (ds.map V.int)) hL5
    have kr' : BkR K T.C_Book (upd H8 L5 (.lst (ds.map V.int))) x0 (ts ++ us) (ls ++ ms) := by
      obtain ⟨dx, t, r, as, h1, h2, h3, h4⟩ := kr
      exact ⟨dx, t, r, as, y7 _ _ h1, y7 _ _ h2, y7 _ _ h3, h4.keep (Same.tk y7)⟩
    refine ⟨x0, L5, n, ts ++ us, ls ++ ms, ds, rfl, kr', .of upd_same, okj.nd, ll, by rw [List.length_append]; omega, by omega, fun H9 y8 => ?_⟩
    rw [pj]
    have y18 := (y16.trans y7).trans y8
    have hD9 := hD2.same y18
    obtain ⟨dx1, q3, q4, ex1, kr1⟩ := (bk12.keep hD2 (Same.kd y18)).parts (K := K)
    have lM9 := lM2.keep (Same.kd y18)
    have lp9 := lp.keep (Same.kd y18)
    have few3 : ((ls ++ ms) ++ prs ts us).length ≤ 1000 := by
      have h2 : ts.length * us.length ≤ 20 * 20 := Nat.mul_le_mul (by omega) (by omega)
      rw [List.length_append, List.length_append, prs_len]
      omega
    generalize planB ts ls n (ds.take ts.length) = B1 at pt ⊢
    generalize planB us ms n (ds.drop ts.length) = B2 at pt ⊢
    refine ⟨_, rfl, _, rfl, andV2 rfl ?_⟩
    refine ⟨rfl, _, rfl, iteNS rfl ?_⟩
    refine ⟨_, rfl, M, _, _, V.ref x1, rfl, rfl, .of lM9.at_, atI_nat (j := 1) rfl, x1, dx1, _, rfl, ex1, fl_keeps q3 q4, _, rfl, _, rfl, p, _, rfl, .inl (.of lp9.at_), fun L6 hL6 => ?_⟩
    have y9 := same_upd (o := .lst (ds.map V.int)) hL6
    have kr1' : BkR K T.C_Book (upd H9 L6 (.lst (ds.map V.int))) x1 (ts ++ us) ((ls ++ ms) ++ prs ts us) := by
      obtain ⟨dx, t, r, as, h1, h2, h3, h4⟩ := kr1
      exact ⟨dx, t, r, as, y9 _ _ h1, y9 _ _ h2, y9 _ _ h3, h4.keep (Same.tk y9)⟩
    refine ⟨x1, L6, n, ts ++ us, (ls ++ ms) ++ prs ts us, ds, rfl, kr1', .of upd_same, okj.nd, ll, few3, by omega, fun H10 y10 => ?_⟩
    rw [pt]
    refine ⟨_, rfl, _, _, _, _, true, rfl, .ty "bool", .base (.bl _), kit_ty (by decide +kernel), _, rfl, iteT ?_⟩
    refine ⟨_, rfl, _, rfl, _, rfl, andV3 rfl rfl ?_⟩
    rw [← Bool.and_assoc]
    refine ⟨rfl, ?_⟩
    rw [decide_eq_true rfl]
    exact k _ ((s2.same ((y18.trans y9).trans y10)))
/-! ### two books -/
theorem TasksOk.part {ts us : List Str} (h : TasksOk ts) (s : us.Sublist ts) (ne : us ≠ []) : TasksOk us := ⟨ne, fun z hz => h.nm z (s.subset hz), s.nodup h.nd, Nat.le_trans s.length_le h.few⟩
/-- a book, its tasks and its rules, apart from R -/
def Row3 (C : Addr) (H : Hp) (d g R u b t r : Addr) (ts : List Str) (ls : List (List Str)) : Prop := ∃ (dx p q : Addr) (as bs : List Addr), H u = some (.tup [.ref b, .ref t, .ref r]) ∧ H b = some (.ins C dx (fl p q)) ∧ (Lat H d g p (ts.map V.str) ∧ p ≠ R) ∧ (Lat H d g q (as.map V.ref) ∧ q ≠ R) ∧ Rls ts H as ls ∧
  (Lat H d g t (ts.map V.str) ∧ t ≠ R) ∧ (Lat H d g r (bs.map V.ref) ∧ r ≠ R) ∧ Rls ts H bs ls ∧ TasksOk ts ∧ ls.length ≤ 8
theorem Row3.kr {C : Addr} {H H' : Hp} {d g R u b t r : Addr} {ts : List Str} {ls : List (List Str)} {xs : List V} (h : Row3 C H d g R u b t r ts ls) (hD : Deck H d g) (hR : H R = some (.lst xs)) (k : Kr d g R H H') : Row3 C H' d g R u b t r ts ls := by
  have tk : Tk H H' := fun b ys e => by
    obtain ⟨gs, a, m, h1, h2, _⟩ := hD
    exact k b _ e (ne_of e h1 (by intro z; cases z)) (ne_of e h2 (by intro z; cases z)) (ne_of e hR (by intro z; cases z))
  have lt : ∀ {b : Addr} {ys : List V}, Lat H d g b ys → b ≠ R → Lat H' d g b ys := fun l n => ⟨k _ _ l.at_ l.nd l.ng n, l.nd, l.ng⟩
  obtain ⟨dx, p, q, as, bs, h1, h2, h3, h4, h5, h6, h7, h8, h9⟩ := h
  refine ⟨dx, p, q, as, bs, tk _ _ h1, ?_, ⟨lt h3.1 h3.2, h3.2⟩, ⟨lt h4.1 h4.2, h4.2⟩, h5.keep tk, ⟨lt h6.1 h6.2, h6.2⟩, ⟨lt h7.1 h7.2, h7.2⟩, h8.keep tk, h9⟩
  obtain ⟨gs, a, m, g1, g2, _⟩ := hD
  exact k _ _ h2 (ne_of h2 g1 (by intro z; cases z)) (ne_of h2 g2 (by intro z; cases z)) (ne_of h2 hR (by intro z; cases z))
/-- a row as all may see it -/
structure RowT (C : Addr) (H : Hp) (d g u b t r : Addr) (ts : List Str) (ls : List (List Str)) : Prop where
  eu : H u = some (.tup [.ref b, .ref t, .ref r])
  bk : Bk C H d g b ts ls
  lt : Lat H d g t (ts.map V.str)
  rl : Rl ts H d g r ls
  ok : TasksOk ts
  few : ls.length ≤ 8
theorem Row3.t {C : Addr} {H : Hp} {d g R u b t r : Addr} {ts : List Str} {ls : List (List Str)} (h : Row3 C H d g R u b t r ts ls) : RowT C H d g u b t r ts ls := by
  obtain ⟨dx, p, q, as, bs, h1, h2, h3, h4, h5, h6, h7, h8, h9, h10⟩ := h
  exact ⟨h1, ⟨dx, p, q, h2, h3.1, as, h4.1, h5⟩, h6.1, ⟨bs, h7.1, h8⟩, h9, h10⟩
theorem RowT.kd {C : Addr} {H H' : Hp} {d g u b t r : Addr} {ts : List Str} {ls : List (List Str)} (h : RowT C H d g u b t r ts ls) (hD : Deck H d g) (k : Kd d g H H') : RowT C H' d g u b t r ts ls :=
  ⟨Kd.tk k hD _ _ h.eu, h.bk.keep hD k, h.lt.keep k, h.rl.keep hD k, h.ok, h.few⟩
theorem prod36 : ∀ a, a < 13 → ∀ b, b < 13 → a + b ≤ 12 → a * b ≤ 36 := by decide
theorem cut6 (vs : List Str) : cutV (vs.map V.str) none (some 6) = (vs.take 6).map V.str := by
  rw [List.map_take]
  exact cut_take _ 6
def sp_two (C : Addr) : Sp := fun vs H Q _ => ∃ (d g p : Addr) (ts : List Str), vs = [.ref d, .ref p] ∧ Deck H d g ∧ Lat H d g p (ts.map V.str) ∧ TasksOk ts ∧ 2 ≤ ts.length ∧ ts.length ≤ 12 ∧
  ∀ (R u1 u2 b1 t1 r1 b2 t2 r2 : Addr) (ts1 ts2 : List Str) (ls1 ls2 : List (List Str)) H', Std H H' d g → Lat H' d g R ([u1, u2].map V.ref) → RowT C H' d g u1 b1 t1 r1 ts1 ls1 → RowT C H' d g u2 b2 t2 r2 ts2 ls2 → ts1.length + ts2.length ≤ 12 → Q (.ref R) H'
set_option maxHeartbeats 1600000 in
theorem ok_law_two (T : Tx K w mg) : FnOk P w K mg base CX0 5 T.f_law_two T.d_law_two ["deck", "pool"] (sp_two T.C_Book) := by
  refine T.F_law_two.ok sc_law_two (fun vs H Q E h => ?_) (fun cdv A outer s H vs Q E hr h => ?_)
  · obtain ⟨d, g, p, ts, rfl, _⟩ := h
    rfl
  · obtain ⟨d, g, p, ts, rfl, hD, lp, ok, t2, t12, k⟩ := h
    refine ⟨_,
    (pss_cons
      (ps_set (i := 2) sc_law_two.nd rfl (.inl rfl) (pe_op op_add pe_int (pe_call (ok_law_draw T) (hr.mono (by decide)) (by rfl) T.g_law_draw T.F_law_draw.kp T.b_law_draw .nil pass0 (pa_cons (pv 0) (pa_cons (pe_op op_sub (pe_callB call_len_seq (by rfl) T.m_len (by decide +kernel) (pa_cons (pv 1) pa_nil)) pe_int) pa_nil)))))
    (pss_cons
      (ps_set (i := 3) sc_law_two.nd rfl (.inl rfl) (pe_lst (pa_cons (pe_call (ok_law_some T) (hr.mono (by decide)) (by rfl) T.g_law_some T.F_law_some.kp T.b_law_some .nil pass0 (pa_cons (pv 0) (pa_cons (pe_slice sl_list (pv 1) po_none (po_some (pv 2))) pa_nil))) (pa_cons (pe_call (ok_law_some T) (hr.mono (by decide)) (by rfl) T.g_law_some T.F_law_some.kp T.b_law_some .nil pass0 (pa_cons (pv 0) (pa_cons (pe_slice sl_list (pv 1) (po_some (pv 2)) po_none) pa_nil))) pa_nil))))
    (pss_cons
      (ps_set (i := 4) sc_law_two.nd rfl (.inl rfl) (pe_call (ok_law_draw T) (hr.mono (by decide)) (by rfl) T.g_law_draw T.F_law_draw.kp T.b_law_draw .nil pass0 (pa_cons (pv 0) (pa_cons pe_int pa_nil))))
    (C8.pss_cut
      (ps_if (pt_cmpR op_lt (pv 4) pe_int (nomark _))
        (pss_one
          (ps_set (i := 3) sc_law_two.nd rfl (.inl rfl) (pe_lst (pa_cons (pe_slice sl_list (pe_call (ok_law_some T) (hr.mono (by decide)) (by rfl) T.g_law_some T.F_law_some.kp T.b_law_some .nil pass0 (pa_cons (pv 0) (pa_cons (pv 1) pa_nil))) po_none (po_some pe_int)) (pa_cons (pe_slice sl_list (pe_call (ok_law_some T) (hr.mono (by decide)) (by rfl) T.g_law_some T.F_law_some.kp T.b_law_some .nil pass0 (pa_cons (pv 0) (pa_cons (pv 1) pa_nil))) po_none (po_some pe_int)) pa_nil)))))
        pss_nil)
    (C8.pss_cut
      (ps_if (pt_cmpR op_eq (pv 4) pe_int (nomark _))
        (pss_one
          (ps_set (i := 3) sc_law_two.nd rfl (.inl rfl) (pe_lst (pa_cons (pe_slice sl_list (pv 1) po_none (po_some (pv 2))) (pa_cons (pe_slice sl_list (pv 1) (po_some (pv 2)) po_none) pa_nil)))))
        pss_nil)
    (pss_cons
      (ps_set (i := 5) sc_law_two.nd rfl (.inl rfl) (pe_callB (call_min2 rfl) (by rfl) T.m_min (by decide +kernel) (pa_cons pe_int (pa_cons (pe_op op_add pe_int (pe_op op_fdiv (pe_op op_sub pe_int (pe_op op_mul (pe_callB call_len_seq (by rfl) T.m_len (by decide +kernel) (pa_cons (pe_ix ix_list (pv 3) pe_int (fun _ _ => rfl)) pa_nil)) (pe_callB call_len_seq (by rfl) T.m_len (by decide +kernel) (pa_cons (pe_ix ix_list (pv 3) pe_int (fun _ _ => rfl)) pa_nil)))) pe_int)) pa_nil))))
    (pss_cons
      (ps_set (i := 6) sc_law_two.nd rfl (.inl rfl) (pe_lst pa_nil))
    (pss_cons
      (ps_for PassesOwn.never rfl (pi_list (pv 3)) (pg_name (i := 7) sc_law_two.nd rfl (.inr rfl))
        (pss_cons
          (ps_setLc (i := 8) (own := [("m", 9)]) (g := gName 9) rfl sc_law_two.nd rfl rfl (sw_true rfl rfl rfl (by decide +kernel)) (pi_range1 (by rfl) T.m_range (pa_cons (pe_call (ok_law_draw T) (hr.mono (by decide)) (by rfl) T.g_law_draw T.F_law_draw.kp T.b_law_draw .nil pass0 (pa_cons (pv 0) (pa_cons (pv 5) pa_nil))) pa_nil)) (blkOk_by (N := ["deck", "pool", "cut", "parts", "way", "most", "rows", "task_list", "rule_list", "m"]) (sc := defScope s_law_two) (own := [("m", 9)]) (by decide +kernel)) (fun _ _ _ _ _ => (pg_name (i := 9) sc_law_two.nd rfl (.inl rfl))) (fun _ _ _ _ _ => pts_nil) (fun _ _ _ _ _ => (pe_call (ok_law_rule T) (hr.mono (by decide)) (by rfl) T.g_law_rule T.F_law_rule.kp T.b_law_rule .nil pass0 (pa_cons (pv 0) (pa_cons (pv 7) pa_nil)))))
        (pss_one
          (ps_expr (pe_bm PySem.F.plainAttrs_list PySem.F.slot_list_append PySem.F.type_list_append mt_append (pv 6) (pa_cons (pe_tup (pa_cons (pe_make T.mk_Book (ok_Book_init T) hr (by rfl) T.mg_Book T.b_Book_init .nil pass0 (pa_cons (pe_callTy call_list_of (by rfl) T.m_list (by decide +kernel) (pa_cons (pv 7) pa_nil)) (pa_cons (pe_callTy call_list_of (by rfl) T.m_list (by decide +kernel) (pa_cons (pv 8) pa_nil)) pa_nil))) (pa_cons (pv 7) (pa_cons (pv 8) pa_nil)))) pa_nil))))))
    (pss_one
      (ps_ret (pv 6))))))))))), ?_⟩
    refine ⟨_, rfl, _, rfl, p, _, rfl, .inl (.of lp.at_), _, _, rfl, rfl, d, g, _, rfl, hD, ?_, ?_, fun c H1 c0 c1 hD1 k1 => ⟨_, _, rfl, rfl, ?_⟩⟩
    · show (0 : Int) < ((ts.map V.str).length : Int) - 1
      rw [List.length_map]; omega
    · refine small_log ?_
      show (((ts.map V.str).length : Int) - 1).natAbs < 1024
      rw [List.length_map]; omega
    have c2 : c < ((ts.map V.str).length : Int) - 1 := c1
    rw [List.length_map] at c2
    obtain ⟨c, rfl⟩ := Int.eq_ofNat_of_zero_le c0
    have s1 := (Std.refl hD).draw hD1 k1
    have lp1 := lp.keep s1.kd
    have cN : (1 : Int) + (c : Int) = ((c + 1 : Nat) : Int) := by omega
    have tne : ts.take (c + 1) ≠ [] := fun e => by
      have := congrArg List.length e
      rw [List.length_take, List.length_nil] at this
      omega
    have dne : ts.drop (c + 1) ≠ [] := fun e => by
      have := congrArg List.length e
      rw [List.length_drop, List.length_nil] at this
      omega
    have okt := ok.part (List.take_sublist (c + 1) ts) tne
    have okd := ok.part (List.drop_sublist (c + 1) ts) dne
    refine ⟨_, rfl, _, rfl, _, rfl, _, rfl, p, _, rfl, .of lp1.at_, fun A1 hA1 => ?_⟩
    rw [cN, cut_take, ← List.map_take]
    have y1 : Std H1 (upd H1 A1 (.lst ((ts.take (c + 1)).map V.str))) d g := (Std.refl hD1).new hA1
    have la1 : Lat (upd H1 A1 (.lst ((ts.take (c + 1)).map V.str))) d g A1 ((ts.take (c + 1)).map V.str) := Lat.new hD1 hA1
    generalize upd H1 A1 (.lst ((ts.take (c + 1)).map V.str)) = H2 at *
    refine ⟨d, g, A1, ts.take (c + 1), rfl, y1.dk, la1, okt, fun X1 us1 H3 y2 _ lx1 okx1 few1 => ?_⟩
    have y12 := y1.trans y2
    refine ⟨_, rfl, _, rfl, _, rfl, _, rfl, p, _, rfl, .of (lp1.keep y12.kd).at_, fun A2 hA2 => ?_⟩
    rw [cN, cut_drop, ← List.map_drop]
    have y3 : Std H3 (upd H3 A2 (.lst ((ts.drop (c + 1)).map V.str))) d g := (Std.refl y2.dk).new hA2
    have la2 : Lat (upd H3 A2 (.lst ((ts.drop (c + 1)).map V.str))) d g A2 ((ts.drop (c + 1)).map V.str) := Lat.new y2.dk hA2
    generalize upd H3 A2 (.lst ((ts.drop (c + 1)).map V.str)) = H4 at *
    refine ⟨d, g, A2, ts.drop (c + 1), rfl, y3.dk, la2, okd, fun X2 us2 H5 y4 _ lx2 okx2 few2 => ⟨(by show 2 ≤ sizeLine; decide), fun Pp hP => ?_⟩⟩
    have y34 := y3.trans y4
    have y5 : Std H5 (upd H5 Pp (.lst [V.ref X1, V.ref X2])) d g := (Std.refl y4.dk).new hP
    have lP : Lat (upd H5 Pp (.lst [V.ref X1, V.ref X2])) d g Pp ([X1, X2].map V.ref) := Lat.new y4.dk hP
    have s6 : Std H (upd H5 Pp (.lst [V.ref X1, V.ref X2])) d g := ((s1.trans y12).trans y34).trans y5
    have lx1' := lx1.keep (y34.trans y5).kd
    have lx2' := lx2.keep y5.kd
    have sum1 : us1.length + us2.length ≤ 12 := by
      rw [List.length_take] at few1
      rw [List.length_drop] at few2
      omega
    clear lx1 lx2 y5 y34 y4 la2 y3 y12 y2 la1 y1 few1 few2 hA1 hA2
    generalize upd H5 Pp (.lst [V.ref X1, V.ref X2]) = H6 at *
    clear hP
    refine ⟨_, rfl, d, g, 4, rfl, s6.dk, by decide, by decide +kernel, fun way H7 w0 w1 hD7 k7 => ?_⟩
    have s7 := s6.draw hD7 k7
    have lP7 := lP.keep k7
    have lx17 := lx1'.keep k7
    have lx27 := lx2'.keep k7
    clear lP lx1' lx2' s6
    -- parts
    refine ⟨fun σ' H' => ∃ (Pp X1 X2 : Addr) (us1 us2 : List Str), σ' = [some (.ref d), some (.ref p), some (.int ((c + 1 : Nat) : Int)), some (.ref Pp), some (.int way), none, none, none, none, none] ∧ Std H H' d g ∧ Lat H' d g Pp ([X1, X2].map V.ref) ∧ Lat H' d g X1 (us1.map V.str) ∧ Lat H' d g X2 (us2.map V.str) ∧ TasksOk us1 ∧ TasksOk us2 ∧ us1.length + us2.length ≤ 12, ?_, ?_⟩
    · refine ⟨_, rfl, _, _, rfl, rfl, _, rfl, ite2 (fun c => ?_) (fun c => ⟨Pp, X1, X2, us1, us2, by rw [← cN]; rfl, s7, lP7, lx17, lx27, okx1, okx2, sum1⟩)⟩
      have lp7 := lp.keep s7.kd
      refine ⟨_, rfl, _, rfl, d, g, p, ts, rfl, s7.dk, lp7, ok, fun Y1 vs1 H8 y1 _ ly1 oky1 _ => ⟨_, rfl, Y1, _, rfl, .of ly1.at_, fun Z1 hZ1 => ?_⟩⟩
      rw [cut6 vs1]
      have z1 : Std H8 (upd H8 Z1 (.lst ((vs1.take 6).map V.str))) d g := (Std.refl y1.dk).new hZ1
      have lz1 : Lat (upd H8 Z1 (.lst ((vs1.take 6).map V.str))) d g Z1 ((vs1.take 6).map V.str) := Lat.new y1.dk hZ1
      generalize upd H8 Z1 (.lst ((vs1.take 6).map V.str)) = H9 at *
      have s9 := (s7.trans y1).trans z1
      refine ⟨_, rfl, _, rfl, d, g, p, ts, rfl, s9.dk, lp.keep s9.kd, ok, fun Y2 vs2 H10 y2 _ ly2 oky2 _ => ⟨_, rfl, Y2, _, rfl, .of ly2.at_, fun Z2 hZ2 => ?_⟩⟩
      rw [cut6 vs2]
      have z2 : Std H10 (upd H10 Z2 (.lst ((vs2.take 6).map V.str))) d g := (Std.refl y2.dk).new hZ2
      have lz2 : Lat (upd H10 Z2 (.lst ((vs2.take 6).map V.str))) d g Z2 ((vs2.take 6).map V.str) := Lat.new y2.dk hZ2
      generalize upd H10 Z2 (.lst ((vs2.take 6).map V.str)) = H11 at *
      have s11 := (s9.trans y2).trans z2
      refine ⟨(by show 2 ≤ sizeLine; decide), fun Pn hPn => ?_⟩
      have y5 : Std H11 (upd H11 Pn (.lst [V.ref Z1, V.ref Z2])) d g := (Std.refl s11.dk).new hPn
      have ok6 : ∀ {vs : List Str}, TasksOk vs → TasksOk (vs.take 6) := fun {vs} o => o.part (List.take_sublist 6 vs) fun e => by
        have h1 := congrArg List.length e
        have h2 := List.length_pos_iff.mpr o.ne
        rw [List.length_take, List.length_nil] at h1
        omega
      exact ⟨Pn, Z1, Z2, vs1.take 6, vs2.take 6, by rw [← cN]; rfl, s11.trans y5, Lat.new s11.dk hPn, (lz1.keep (y2.trans z2).kd).keep y5.kd, lz2.keep y5.kd, ok6 oky1, ok6 oky2, by rw [List.length_take, List.length_take]; omega⟩
    clear lx17 lx27 lP7 s7 k7 hD7 okx1 okx2 sum1
    rintro σ H7 ⟨Pp, X1, X2, us1, us2, rfl, s7, lP7, lx17, lx27, okx1, okx2, sum1⟩
    refine ⟨fun σ' H' => ∃ (Pp X1 X2 : Addr) (us1 us2 : List Str), σ' = [some (.ref d), some (.ref p), some (.int ((c + 1 : Nat) : Int)), some (.ref Pp), some (.int way), none, none, none, none, none] ∧ Std H H' d g ∧ Lat H' d g Pp ([X1, X2].map V.ref) ∧ Lat H' d g X1 (us1.map V.str) ∧ Lat H' d g X2 (us2.map V.str) ∧ TasksOk us1 ∧ TasksOk us2 ∧ us1.length + us2.length ≤ 12, ?_, ?_⟩
    · refine ⟨_, rfl, rfl, _, rfl, ite2 (fun _ => ?_) (fun _ => ⟨Pp, X1, X2, us1, us2, rfl, s7, lP7, lx17, lx27, okx1, okx2, sum1⟩)⟩
      have lp7 := lp.keep s7.kd
      refine ⟨_, rfl, _, rfl, _, rfl, p, _, rfl, .of lp7.at_, fun A1 hA1 => ?_⟩
      rw [cut_take, ← List.map_take]
      have y1 : Std H7 (upd H7 A1 (.lst ((ts.take (c + 1)).map V.str))) d g := (Std.refl s7.dk).new hA1
      have la1 := Lat.new (xs := (ts.take (c + 1)).map V.str) s7.dk hA1
      refine ⟨_, rfl, _, rfl, _, rfl, p, _, rfl, .of (lp7.keep y1.kd).at_, fun A2 hA2 => ?_⟩
      rw [cut_drop, ← List.map_drop]
      have y3 := (Std.refl y1.dk).new (o := .lst ((ts.drop (c + 1)).map V.str)) hA2
      have la2 := Lat.new (xs := (ts.drop (c + 1)).map V.str) y1.dk hA2
      refine ⟨(by show 2 ≤ sizeLine; decide), fun Pn hPn => ?_⟩
      have y5 := (Std.refl y3.dk).new (o := .lst [V.ref A1, V.ref A2]) hPn
      exact ⟨Pn, A1, A2, _, _, rfl, ((s7.trans y1).trans y3).trans y5, Lat.new y3.dk hPn, (la1.keep y3.kd).keep y5.kd, la2.keep y5.kd, okt, okd, by rw [List.length_take, List.length_drop]; omega⟩
    clear lx17 lx27 lP7 s7 okx1 okx2 sum1
    rintro σ H7 ⟨Pp, X1, X2, us1, us2, rfl, s7, lP7, lx17, lx27, okx1, okx2, sum1⟩
    -- most
    refine ⟨_, rfl, Pp, _, _, V.ref X1, rfl, rfl, .of lP7.at_, atI_nat (j := 0) rfl, X1, _, rfl, .inl (.of lx17.at_), _, rfl, Pp, _, _, V.ref X2, rfl, rfl, .of lP7.at_, atI_nat (j := 1) rfl, X2, _, rfl, .inl (.of lx27.at_), _, _, rfl, rfl, .inl ⟨?_, ?_⟩, _, _, rfl, rfl, _, _, rfl, rfl, ⟨by decide, by decide⟩, _, _, rfl, rfl, _, _, rfl, ?_⟩
    · rw [List.length_map]; omega
    · rw [List.length_map]; omega
    rw [List.length_map, List.length_map]
    have hm : ∃ m : Int, (if (1 + (40 - (us1.length : Int) * (us2.length : Int)) / 2) < 8 then (1 + (40 - (us1.length : Int) * (us2.length : Int)) / 2) else 8) = m ∧ 1 ≤ m ∧ m ≤ 8 := by
      have h1 := prod36 us1.length (by omega) us2.length (by omega) sum1
      have h2 : (us1.length : Int) * (us2.length : Int) ≤ 36 := by exact_mod_cast h1
      refine ⟨_, rfl, ?_, ?_⟩
      · split <;> omega
      · split <;> omega
    obtain ⟨m, em, m1, m8⟩ := hm
    show gName 5 (V.int (if (1 + (40 - (us1.length : Int) * (us2.length : Int)) / 2) < 8 then (1 + (40 - (us1.length : Int) * (us2.length : Int)) / 2) else 8)) _ H7 _
    rw [em]
    refine ⟨Nat.zero_le _, fun R hR => ?_⟩
    have dR := s7.dk.new hR
    have fR := s7.free hR
    have PR := ne_of_none lP7.at_ hR
    have R1 := ne_of_none lx17.at_ hR
    have R2 := ne_of_none lx27.at_ hR
    have y0 : Std H7 (upd H7 R (.lst [])) d g := (Std.refl s7.dk).new hR
    have eR0 := upd_same (H := H7) (a := R) (o := .lst [])
    generalize upd H7 R (.lst []) = H8 at *
    have pick : ∀ {j : Nat} {v : V}, ([X1, X2].map V.ref)[j]? = some v → ∃ X us, v = .ref X ∧ [us1, us2][j]? = some us ∧ Lat H8 d g X (us.map V.str) ∧ X ≠ R ∧ TasksOk us := fun {j} {v} hj => by
      match j, hj with
      | 0, hj => exact ⟨X1, us1, (Option.some.inj hj).symm, rfl, lx17.keep y0.kd, R1, okx1⟩
      | 1, hj => exact ⟨X2, us2, (Option.some.inj hj).symm, rfl, lx27.keep y0.kd, R2, okx2⟩
    refine ⟨_, rfl, Pp, rfl, ⟨_, .of (lP7.keep y0.kd).at_⟩, ?_⟩
    refine for_list (xs := [X1, X2].map V.ref) (fun j σ H' => ∃ (ws : List Addr) (x7 x8 : Option V), σ = [some (.ref d), some (.ref p), some (.int ((c + 1 : Nat) : Int)), some (.ref Pp), some (.int way), some (.int m), some (.ref R), x7, x8, none] ∧ Deck H' d g ∧ Kr d g R H8 H' ∧ H' R = some (.lst (ws.map V.ref)) ∧ ws.length = j ∧
      ∀ (i : Nat) (u : Addr), ws[i]? = some u → ∃ b t r us ls, [us1, us2][i]? = some us ∧ Row3 T.C_Book H' d g R u b t r us ls) ?_ ?_ ?_ ?_
    · exact ⟨[], _, _, rfl, y0.dk, fun b o e _ _ _ => e, eR0, rfl, fun i u hu => by rw [List.getElem?_nil] at hu; cases hu⟩
    · rintro j σ H' _ ⟨ws, x7, x8, _, _, kr, _⟩
      exact .of (kr _ _ (lP7.keep y0.kd).at_ lP7.nd lP7.ng PR)
    · rintro j v σ H9 hj ⟨ws, x7, x8, rfl, hD9, kr9, eR9, wl, rows⟩
      have j2 : j < 2 := (List.getElem?_eq_some_iff.mp hj).1
      obtain ⟨X, us, rfl, hus, lX, XR, okus⟩ := pick hj
      have lX9 : Lat H9 d g X (us.map V.str) := ⟨kr9 _ _ lX.at_ lX.nd lX.ng XR, lX.nd, lX.ng⟩
      refine ⟨_, rfl, _, rfl, d, g, m, rfl, hD9, by omega, small_log (by omega), fun n H10 n0 n1 hD10 k10 => ⟨_, rfl, by omega, by omega, fun D hDn => ?_⟩⟩
      have s10 := (Std.refl hD9).draw hD10 k10
      have dD := hD10.new hDn
      have eR10 := k10 _ _ eR9 dR.1 dR.2
      have RD := ne_of_none eR10 hDn
      refine lc_range (lo := 0) (n := n.toNat) (fun i H' => ∃ as ls, Std H10 H' d g ∧ Rls us H' as ls ∧ as.length = i ∧ H' D = some (.lst (as.map V.ref))) ?_ ?_ ?_
      · exact ⟨[], [], (Std.refl hD10).new hDn, .nil, rfl, upd_same⟩
      · rintro i H11 hi ⟨as, ls, s4, rl, al, eD⟩
        refine ⟨rfl, _, rfl, _, rfl, d, g, X, us, rfl, s4.dk, (lX9.keep k10).keep s4.kd, okus, fun a l H12 s5 fa ea rok => ?_⟩
        have eD5 := s5.kd _ _ eD dD.1 dD.2
        refine ⟨as.map V.ref, eD5, ?_, as ++ [a], ls ++ [l], (s4.trans s5).mut hDn dD.1 dD.2, ?_, ?_, ?_⟩
        · rw [List.length_map, al]; exact small1000 (by omega)
        · exact ((rl.keep (Kd.tk s5.kd s4.dk)).snoc ea rok).keep (tk_mut eD5)
        · rw [List.length_append, al]; rfl
        · rw [upd_same, List.map_append]; rfl
      rintro H11 ⟨as, ls, s4, rl, al, eD⟩
      have alen := rl.len
      have s911 := s10.trans s4
      have lX11 := lX9.keep s911.kd
      have lD11 : Lat H11 d g D (as.map V.ref) := ⟨eD, dD.1, dD.2⟩
      have eR11 := s911.kd _ _ eR9 dR.1 dR.2
      have hD11 := s4.dk
      -- the book, the row
      refine ⟨_, rfl, .inl ⟨rfl, _, .of eR11⟩, _, rfl, X, _, rfl, .inl (.of lX11.at_), fun A2 hA2 => ?_⟩
      have sA := same_upd (o := .lst (us.map V.str)) hA2
      refine ⟨_, rfl, D, _, rfl, .inl (.of (sA _ _ eD)), fun B2 hB2 => ?_⟩
      have sB := same_upd (o := .lst (as.map V.ref)) hB2
      have sAB := sA.trans sB
      refine mkB sAB (sB _ _ upd_same) upd_same (rl.keep (Same.tk sAB)) okus fun x dx q1 q2 bs H12 s12 fp fq ex ep eq rb => ?_
      refine ⟨_, rfl, _, rfl, (by show 3 ≤ sizeLine; decide), fun U hU => ?_⟩
      have zU := same_upd (o := .tup [.ref x, .ref X, .ref D]) hU
      have eU := upd_same (H := H12) (a := U) (o := .tup [.ref x, .ref X, .ref D])
      generalize upd H12 U (.tup [.ref x, .ref X, .ref D]) = H13 at *
      have z := s12.trans zU
      have hD13 := hD11.same z
      have eR13 := z _ _ eR11
      have row : Row3 T.C_Book H13 d g R U x X D us ls := ⟨dx, q1, q2, bs, as, eU, zU _ _ ex, ⟨⟨zU _ _ ep, (hD11.new fp).1, (hD11.new fp).2⟩, (ne_of_none eR11 fp).symm⟩, ⟨⟨zU _ _ eq, (hD11.new fq).1, (hD11.new fq).2⟩, (ne_of_none eR11 fq).symm⟩, rb.keep (Same.tk zU), ⟨lX11.keep (Same.kd z), XR⟩, ⟨lD11.keep (Same.kd z), RD.symm⟩, rl.keep (Same.tk z), okus, by omega⟩
      refine ⟨R, _, _, rfl, rfl, eR13, (by rw [List.length_map]; exact small1000 (by omega)), ?_⟩
      have kr13 : Kr d g R H9 H13 := (s911.kd.trans (Same.kd z)).kr
      have kr14 := kr13.trans (kr_upd (H := H13) (o := .lst (ws.map V.ref ++ [V.ref U])))
      refine ⟨ws ++ [U], _, _, rfl, deck_mv hD13 dR, kr9.trans kr14, by rw [upd_same, map_snoc_ref], by rw [List.length_append, wl]; rfl, fun i u hu => ?_⟩
      by_cases hi : i < ws.length
      · rw [List.getElem?_append_left hi] at hu
        obtain ⟨b, t, r, us', ls', e1, row'⟩ := rows i u hu
        exact ⟨b, t, r, us', ls', e1, (row'.kr hD9 eR9 kr13).kr hD13 eR13 kr_upd⟩
      · rw [List.getElem?_append_right (by omega)] at hu
        have i0 : i = j := by
          have := (List.getElem?_eq_some_iff.mp hu).1
          have : i - ws.length < 1 := this
          omega
        subst i0
        rw [wl, Nat.sub_self] at hu
        obtain rfl : U = u := Option.some.inj hu
        exact ⟨x, X, D, us, ls, hus, row.kr hD13 eR13 kr_upd⟩
    · rintro σ H9 ⟨ws, x7, x8, rfl, hD9, kr9, eR9, wl, rows⟩
      match ws, wl, eR9, rows with
      | [w1, w2], _, eR9, rows =>
        obtain ⟨b1, t1, r1, v1, l1, e1, row1⟩ := rows 0 w1 rfl
        obtain ⟨b2, t2', r2, v2, l2, e2, row2⟩ := rows 1 w2 rfl
        obtain rfl : us1 = v1 := Option.some.inj e1
        obtain rfl : us2 = v2 := Option.some.inj e2
        refine ⟨_, rfl, k R w1 w2 b1 t1 r1 b2 t2' r2 us1 us2 l1 l2 H9 ⟨hD9, fun b o e n1 n2 => ?_⟩ ⟨eR9, dR.1, dR.2⟩ row1.t row2.t sum1⟩
        exact kr9 b o ((s7.trans y0).kd b o e n1 n2) n1 n2 (ne_of_none e fR)
/-! ### the law -/
theorem order2 : ∀ {os : List Int}, os.length = 2 → (∀ o ∈ os, 0 ≤ o ∧ o < 2) → os.Nodup → os = [0, 1] ∨ os = [1, 0]
  | [a, b], _, h, nd => by
    have h1 := h a (by simp)
    have h2 := h b (by simp)
    have h3 : a ≠ b := by simpa using nd
    have : (a = 0 ∧ b = 1) ∨ (a = 1 ∧ b = 0) := by omega
    rcases this with ⟨rfl, rfl⟩ | ⟨rfl, rfl⟩
    · exact .inl rfl
    · exact .inr rfl
def sel (u v : Addr) (o : Int) : Addr := if o = 0 then u else v
theorem any_is : ∀ l : List Str, anyOf l = .bl (!decide (l = []))
  | [] => rfl
  | _ :: _ => rfl
theorem first_scal (l : List Str) : scal (firstOf l) (firstOf l) = true := by cases l <;> rfl
theorem first_at : ∀ l : List Str, (l.map V.str ++ [V.non])[0]? = some (firstOf l)
  | [] => rfl
  | _ :: _ => rfl
theorem com_ok {ts us : List Str} (ok : TasksOk us) : SeqAt.shaped (tdata (common ts us)) = true := by
  unfold SeqAt.shaped
  rw [Bool.and_eq_true]
  have h := depth_strs (common ts us)
  exact ⟨lay_strs fun z hz => nm_ok (ok.nm z ((List.mem_filter.mp hz).1)), decide_eq_true (by simp only [tdata, PyData.depth]; omega)⟩
/-- a book apart from M -/
def BkM (C : Addr) (H : Hp) (d g M x : Addr) (ts : List Str) (ls : List (List Str)) : Prop := ∃ (dx p q : Addr) (as : List Addr), H x = some (.ins C dx (fl p q)) ∧ (Lat H d g p (ts.map V.str) ∧ p ≠ M) ∧ (Lat H d g q (as.map V.ref) ∧ q ≠ M) ∧ Rls ts H as ls
theorem BkM.kr {C : Addr} {H H' : Hp} {d g M x : Addr} {ts : List Str} {ls : List (List Str)} {xs : List V} (h : BkM C H d g M x ts ls) (hD : Deck H d g) (hM : H M = some (.lst xs)) (k : Kr d g M H H') : BkM C H' d g M x ts ls := by
  have tk : Tk H H' := fun b ys e => by
    obtain ⟨gs, a, m, h1, h2, _⟩ := hD
    exact k b _ e (ne_of e h1 (by intro z; cases z)) (ne_of e h2 (by intro z; cases z)) (ne_of e hM (by intro z; cases z))
  have lt : ∀ {b : Addr} {ys : List V}, Lat H d g b ys → b ≠ M → Lat H' d g b ys := fun l n => ⟨k _ _ l.at_ l.nd l.ng n, l.nd, l.ng⟩
  obtain ⟨dx, p, q, as, h2, h3, h4, h5⟩ := h
  refine ⟨dx, p, q, as, ?_, ⟨lt h3.1 h3.2, h3.2⟩, ⟨lt h4.1 h4.2, h4.2⟩, h5.keep tk⟩
  obtain ⟨gs, a, m, g1, g2, _⟩ := hD
  exact k _ _ h2 (ne_of h2 g1 (by intro z; cases z)) (ne_of h2 g2 (by intro z; cases z)) (ne_of h2 hM (by intro z; cases z))
theorem BkM.bk {C : Addr} {H : Hp} {d g M x : Addr} {ts : List Str} {ls : List (List Str)} (h : BkM C H d g M x ts ls) : Bk C H d g x ts ls := by
  obtain ⟨dx, p, q, as, h2, h3, h4, h5⟩ := h
  exact ⟨dx, p, q, h2, h3.1, as, h4.1, h5⟩
def spLaw (K : PySem.W.Frag) : Sp := fun vs H Q _ => ∃ (a : Addr) (ns : List Int), vs = [.ref a] ∧ SqL K H a (ns.map V.int) ∧ ns.length ≤ 63 ∧ ∀ H', Q (.bl true) H'
set_option maxHeartbeats 3200000 in
theorem ok_law (T : Tx K w mg) : FnOk P w K mg base CX0 10 T.f_law T.d_law ["script"] (spLaw K) := by
  refine T.F_law.ok sc_law (fun vs H Q E h => ?_) (fun cdv A outer s H vs Q E hr h => ?_)
  · obtain ⟨a, ns, rfl, _⟩ := h
    rfl
  · obtain ⟨a, ns, rfl, hS, hl, k⟩ := h
    refine ⟨_,
    (pss_cons
      (ps_set (i := 1) sc_law.nd rfl (.inl rfl) (pe_call (ok_law_deck T) (hr.mono (by decide)) (by rfl) T.g_law_deck T.F_law_deck.kp T.b_law_deck .nil pass0 (pa_cons (pv 0) pa_nil)))
    (pss_cons
      (ps_set (i := 2) sc_law.nd rfl (.inl rfl) (pe_call (ok_law_names T) (hr.mono (by decide)) (by rfl) T.g_law_names T.F_law_names.kp T.b_law_names .nil pass0 (pa_cons (pv 1) (pa_cons (pe_op op_add pe_int (pe_call (ok_law_draw T) (hr.mono (by decide)) (by rfl) T.g_law_draw T.F_law_draw.kp T.b_law_draw .nil pass0 (pa_cons (pv 1) (pa_cons pe_int pa_nil)))) pa_nil))))
    (pss_cons
      (ps_for PassesOwn.never rfl (pi_range1 (by rfl) T.m_range (pa_cons (pe_op op_add pe_int (pe_call (ok_law_draw T) (hr.mono (by decide)) (by rfl) T.g_law_draw T.F_law_draw.kp T.b_law_draw .nil pass0 (pa_cons (pv 1) (pa_cons pe_int pa_nil)))) pa_nil)) (pg_name (i := 3) sc_law.nd rfl (.inl rfl))
        (pss_cons
          (ps_set (i := 4) sc_law.nd rfl (.inr rfl) (pe_call (ok_law_two T) (hr.mono (by decide)) (by rfl) T.g_law_two T.F_law_two.kp T.b_law_two .nil pass0 (pa_cons (pv 1) (pa_cons (pv 2) pa_nil))))
        (pss_cons
          (ps_asg (pe_lc (own := [("at", 15)]) (g := gName 15) rfl sc_law.nd (pi_list (pe_call (ok_law_order T) (hr.mono (by decide)) (by rfl) T.g_law_order T.F_law_order.kp T.b_law_order .nil pass0 (pa_cons (pv 1) (pa_cons pe_int pa_nil)))) (blkOk_by (N := ["script", "deck", "pool", "k", "rows", "first", "second", "common", "way", "made", "task_list", "rule_list", "one", "m", "book", "at", "name", "two"]) (sc := defScope s_law) (own := [("at", 15)]) (by decide +kernel)) (fun _ _ _ _ _ => (pg_name (i := 15) sc_law.nd rfl (.inl rfl))) (fun _ _ _ _ _ => pts_nil) (fun _ _ _ _ _ => (pe_ix (r := rIxL K) ix_list (pv 4) (pv 15) (fun _ _ => rfl)))) (pg_unl (by rfl) (pgs_cons (pg_name (i := 5) sc_law.nd rfl (.inr rfl)) (pgs_cons (pg_name (i := 6) sc_law.nd rfl (.inr rfl)) pgs_nil))))
        (pss_cons
          (ps_setLc (i := 7) (own := [("name", 16)]) (g := gName 16) rfl sc_law.nd rfl rfl (sw_true rfl rfl rfl (by decide +kernel)) (pi_list (pe_ix ix_tup (pv 6) pe_int (fun _ _ => rfl))) (blkOk_by (N := ["script", "deck", "pool", "k", "rows", "first", "second", "common", "way", "made", "task_list", "rule_list", "one", "m", "book", "at", "name", "two"]) (sc := defScope s_law) (own := [("name", 16)]) (by decide +kernel)) (fun _ _ _ _ _ => (pg_name (i := 16) sc_law.nd rfl (.inl rfl))) (fun _ _ _ _ _ => (pts_one (pt_cmpR (r := rIn K false) op_in_seq (pv 16) (pe_ix (r := rIxT K) ix_tup (pv 5) pe_int (fun _ _ => rfl)) (by rfl)))) (fun _ _ _ _ _ => (pv 16)))
        (pss_cons
          (ps_for PassesOwn.never rfl (pi_list (pe_call (ok_law_order T) (hr.mono (by decide)) (by rfl) T.g_law_order T.F_law_order.kp T.b_law_order .nil pass0 (pa_cons (pv 1) (pa_cons pe_int pa_nil)))) (pg_name (i := 8) sc_law.nd rfl (.inl rfl))
            (pss_cons
              (ps_if (pt_cmpR op_ne (pe_call (ok_law_raised T) hr (by rfl) T.g_law_raised T.F_law_raised.kp T.b_law_raised .nil pass0 (pa_cons (pe_ix ix_tup (pv 5) pe_int (fun _ _ => rfl)) (pa_cons (pe_ix ix_tup (pv 6) pe_int (fun _ _ => rfl)) (pa_cons (pv 8) pa_nil)))) (pe_ix ix_list (pe_op op_cat (pv 7) (pe_lst (pa_cons pe_non pa_nil))) pe_int (fun _ _ => rfl)) (nomark _))
                (pss_one
                  (ps_ret pe_bl))
                pss_nil)
            (pss_one
              (ps_if (pt_cmpR op_ne (pe_call (ok_law_based T) hr (by rfl) T.g_law_based T.F_law_based.kp T.b_law_based .nil pass0 (pa_cons (pe_ix ix_tup (pv 5) pe_int (fun _ _ => rfl)) (pa_cons (pe_ix ix_tup (pv 6) pe_int (fun _ _ => rfl)) (pa_cons (pv 8) pa_nil)))) (pe_cmpR (op_neD hr.units) (pv 7) (pe_lst pa_nil) (nomark _)) (nomark _))
                (pss_one
                  (ps_ret pe_bl))
                pss_nil))))
        (C8.pss_cut
          (ps_if (pt_cmpR (op_eqD hr.units) (pv 7) (pe_lst pa_nil) (nomark _))
            (pss_cons
              (ps_setLc (i := 9) (own := [("way", 8)]) (g := gName 8) rfl sc_law.nd rfl rfl (sw_true rfl rfl rfl (by decide +kernel)) (pi_range1 (by rfl) T.m_range (pa_cons pe_int pa_nil)) (blkOk_by (N := ["script", "deck", "pool", "k", "rows", "first", "second", "common", "way", "made", "task_list", "rule_list", "one", "m", "book", "at", "name", "two"]) (sc := defScope s_law) (own := [("way", 8)]) (by decide +kernel)) (fun _ _ _ _ _ => (pg_name (i := 8) sc_law.nd rfl (.inl rfl))) (fun _ _ _ _ _ => pts_nil) (fun _ _ _ _ _ => (pe_call (ok_law_call T) (hr.mono (by decide)) (by rfl) T.g_law_call T.F_law_call.kp T.b_law_call .nil passL (pa_cons (pe_ix (r := rIxT K) ix_tup (pv 5) pe_int (fun _ _ => rfl)) (pa_cons (pe_ix (r := rIxT K) ix_tup (pv 6) pe_int (fun _ _ => rfl)) (pa_cons (pv 8) pa_nil))))))
            (pss_cons
              (ps_set (i := 10) sc_law.nd rfl (.inl rfl) (pe_op op_cat (pe_ix ix_tup (pv 5) pe_int (fun _ _ => rfl)) (pe_ix ix_tup (pv 6) pe_int (fun _ _ => rfl))))
            (pss_cons
              (ps_set (i := 11) sc_law.nd rfl (.inl rfl) (pe_op op_cat (pe_ix ix_tup (pv 5) pe_int (fun _ _ => rfl)) (pe_ix ix_tup (pv 6) pe_int (fun _ _ => rfl))))
            (pss_cons
              (ps_if (PW.pt (pw_or (pt_cmpR op_notBl (pe_cmpR (op_eqOwn T.me_Book_eq (ok_Book_eq T) (hr.mono (by decide)) T.b_Book_eq) (pe_ix ix_list (pv 9) pe_int (fun _ _ => rfl)) (pe_op (op_andOwn T.sf_Book T.me_Book_and (ok_Book_and T) (hr.mono (by decide)) T.b_Book_and) (pe_ix ix_tup (pv 5) pe_int (fun _ _ => rfl)) (pe_ix ix_tup (pv 6) pe_int (fun _ _ => rfl))) (nomark _)) pe_bl (nomark _)) (pw_or1 (pt_not (pt_val (pe_call (ok_law_shows T) (hr.mono (by decide)) (by rfl) T.g_law_shows T.F_law_shows.kp T.b_law_shows .nil pass0 (pa_cons (pv 1) (pa_cons (pe_ix ix_list (pv 9) pe_int (fun _ _ => rfl)) (pa_cons (pv 10) (pa_cons (pv 11) pa_nil))))))))))
                (pss_one
                  (ps_ret pe_bl))
                pss_nil)
            (pss_cons
              (ps_for PassesOwn.never rfl (pi_list (pe_ix ix_tup (pv 5) pe_int (fun _ _ => rfl))) (pg_name (i := 12) sc_law.nd rfl (.inr rfl))
                (pss_one
                  (ps_set (i := 11) sc_law.nd rfl (.inl rfl) (pe_op op_cat (pv 11) (pe_lc (own := [("two", 17)]) (g := gName 17) rfl sc_law.nd (pi_list (pe_ix ix_tup (pv 6) pe_int (fun _ _ => rfl))) (blkOk_by (N := ["script", "deck", "pool", "k", "rows", "first", "second", "common", "way", "made", "task_list", "rule_list", "one", "m", "book", "at", "name", "two"]) (sc := defScope s_law) (own := [("two", 17)]) (by decide +kernel)) (fun _ _ _ _ _ => (pg_name (i := 17) sc_law.nd rfl (.inl rfl))) (fun _ _ _ _ _ => pts_nil) (fun _ _ _ _ _ => (pe_tup (pa_cons pe_str (pa_cons (pv 12) (pa_cons (pv 17) pa_nil))))))))))
            (pss_cons
              (ps_for PassesOwn.never rfl (pi_tup (pe_tup (pa_cons pe_int (pa_cons pe_int pa_nil)))) (pg_name (i := 8) sc_law.nd rfl (.inl rfl))
                (pss_one
                  (ps_if (pt_not (pt_val (pe_call (ok_law_shows T) (hr.mono (by decide)) (by rfl) T.g_law_shows T.F_law_shows.kp T.b_law_shows .nil pass0 (pa_cons (pv 1) (pa_cons (pe_ix ix_list (pv 9) (pv 8) (fun _ _ => rfl)) (pa_cons (pv 10) (pa_cons (pv 11) pa_nil)))))))
                    (pss_one
                      (ps_ret pe_bl))
                    pss_nil)))
            (pss_one
              (ps_for PassesOwn.never rfl (pi_range1 (by rfl) T.m_range (pa_cons pe_int pa_nil)) (pg_name (i := 13) sc_law.nd rfl (.inl rfl))
                (pss_one
                  (ps_if (pt_not (pt_val (pe_call (ok_law_then_right T) (hr.mono (by decide)) (by rfl) T.g_law_then_right T.F_law_then_right.kp T.b_law_then_right .nil pass0 (pa_cons (pv 1) (pa_cons (pv 9) (pa_cons (pv 5) (pa_cons (pv 6) pa_nil)))))))
                    (pss_one
                      (ps_ret pe_bl))
                    pss_nil))))))))))
            pss_nil)
        (pss_one
          (ps_for PassesOwn.never rfl (pi_list (pv 4)) (pg_tup (by rfl) (pgs_cons (pg_name (i := 14) sc_law.nd rfl (.inl rfl)) (pgs_cons (pg_name (i := 10) sc_law.nd rfl (.inl rfl)) (pgs_cons (pg_name (i := 11) sc_law.nd rfl (.inl rfl)) pgs_nil))))
            (pss_one
              (ps_if (pt_not (pt_val (pe_call (ok_law_shows T) (hr.mono (by decide)) (by rfl) T.g_law_shows T.F_law_shows.kp T.b_law_shows .nil pass0 (pa_cons (pv 1) (pa_cons (pv 14) (pa_cons (pv 10) (pa_cons (pv 11) pa_nil)))))))
                (pss_one
                  (ps_ret pe_bl))
                pss_nil))))))))))
    (pss_one
      (ps_ret pe_bl))))), ?_⟩
    refine ⟨_, rfl, a, ns, rfl, hS, hl, fun d g H1 s1 hD1 => ?_⟩
    refine ⟨_, rfl, _, rfl, d, g, 11, rfl, hD1, by decide, by decide +kernel, fun c H2 c0 c1 hD2 k2 => ?_⟩
    obtain ⟨c, rfl⟩ := Int.eq_ofNat_of_zero_le c0
    refine ⟨_, _, rfl, rfl, d, g, 2 + c, rfl, hD2, by omega, by omega, fun p ts H3 hD3 k3 _ ep n1 n2 tl tn td => ?_⟩
    have ok : TasksOk ts := ⟨fun z => by rw [z] at tl; simp at tl; omega, tn, td, by omega⟩
    have lp : Lat H3 d g p (ts.map V.str) := ⟨ep, n1, n2⟩
    clear ep n1 n2 tn td k3 k2 hD2 s1 hS hl
    refine ⟨_, rfl, d, g, 3, rfl, hD3, by decide, by decide +kernel, fun n H4 n0 n1 hD4 k4 => ⟨_, _, rfl, rfl, _, rfl, by omega, by omega, for_range (n := (2 + n).toNat) (fun i σ H' => ∃ x3 x4 x5 x6 x7 x8 x9 x10 x11 x12 x13 x14, σ = [some (.ref a), some (.ref d), some (.ref p), x3, x4, x5, x6, x7, x8, x9, x10, x11, x12, x13, x14, none, none, none] ∧ Std H3 H' d g)
      ⟨_, _, _, _, _, _, _, _, _, _, _, _, rfl, (Std.refl hD3).draw hD4 k4⟩ ?_ ?_⟩⟩
    · clear hD4 k4 n0 n1
      rintro i σ H4 _ ⟨x3, x4, x5, x6, x7, x8, x9, x10, x11, x12, x13, x14, rfl, s4⟩
      refine ⟨_, rfl, _, rfl, d, g, p, ts, rfl, s4.dk, lp.keep s4.kd, ok, by omega, by omega, fun R u1 u2 b1 t1 r1 b2 t2 r2 ts1 ts2 ls1 ls2 H5 s5 lR row1 row2 sum => ?_⟩
      have s35 := s4.trans s5
      clear s4 s5
      -- first, second
      refine ⟨_, rfl, d, g, 2, rfl, s35.dk, by decide, fun q os H6 s6 fq eq q1 q2 oin ol ond => ⟨q, rfl, ⟨_, .of eq⟩, fun D hD => ?_⟩⟩
      have lR6 := lR.keep s6.kd
      have dD := s6.dk.new hD
      refine lc_list (xs := os.map V.int) (fun i H' => H' D = some (.lst (((os.take i).map (sel u1 u2)).map V.ref)) ∧ Same H6 H') ⟨upd_same, same_upd hD⟩ (fun i H' _ h => .of (h.2 _ _ eq)) ?_ ?_
      · rintro i v H7 hi ⟨eD, sm⟩
        rw [List.getElem?_map] at hi
        obtain ⟨o, ho, rfl⟩ := Option.map_eq_some_iff.mp hi
        have oi := oin o (List.mem_of_getElem? ho)
        have il := (List.getElem?_eq_some_iff.mp ho).1
        obtain ⟨o, rfl⟩ := Int.eq_ofNat_of_zero_le oi.1
        have gj : ([u1, u2].map V.ref)[o]? = some (V.ref (sel u1 u2 (o : Int))) := by
          have : o = 0 ∨ o = 1 := by omega
          rcases this with rfl | rfl
          · rfl
          · rfl
        refine ⟨rfl, _, rfl, _, rfl, R, _, _, V.ref (sel u1 u2 (o : Int)), rfl, rfl, .of (sm _ _ lR6.at_), at_of (j := o) rfl gj, _, eD, ?_, ?_, fun b x e => ?_⟩
        · rw [List.length_map, List.length_map]; exact small1000 (by rw [List.length_take]; omega)
        · rw [upd_same, List.take_add_one, ho, List.map_append, List.map_append]; rfl
        · rw [upd_ne (ne_of_none e hD)]; exact sm b x e
      rintro H7 ⟨eD, sm⟩
      rw [List.length_map, List.take_length] at eD
      have s57 : Std H5 H7 d g := s6.same sm
      have s37 := s35.trans s57
      have row17 := row1.kd s35.dk s57.kd
      have row27 := row2.kd s35.dk s57.kd
      have lR7 := lR.keep s57.kd
      have pick : ∃ uF bF tF rF uS bS tS rS tsF tsS lsF lsS, (os.map (sel u1 u2)).map V.ref = [V.ref uF, V.ref uS] ∧ RowT T.C_Book H7 d g uF bF tF rF tsF lsF ∧ RowT T.C_Book H7 d g uS bS tS rS tsS lsS ∧ tsF.length + tsS.length ≤ 12 := by
        rcases order2 ol oin ond with rfl | rfl
        · exact ⟨_, _, _, _, _, _, _, _, _, _, _, _, rfl, row17, row27, sum⟩
        · exact ⟨_, _, _, _, _, _, _, _, _, _, _, _, rfl, row27, row17, by omega⟩
      obtain ⟨uF, bF, tF, rF, uS, bS, tS, rS, tsF, tsS, lsF, lsS, ew, rowF, rowS, sumF⟩ := pick
      rw [ew] at eD
      clear ew row1 row2 s6 eq q1 q2 oin ol ond fq lR lR6 sm
      refine ⟨D, _, rfl, .of eD, rfl, _, _, rfl, _, _, rfl, rfl, ?_⟩
      clear eD dD hD
      -- common
      refine ⟨_, rfl, uS, _, _, V.ref tS, rfl, rfl, .of rowS.eu, atI_nat (j := 1) rfl, tS, rfl, ⟨_, .of rowS.lt.at_⟩, fun D hD => ?_⟩
      have dD := s37.dk.new hD
      refine lc_list (xs := tsS.map V.str) (fun i H' => H' D = some (.lst ((common tsF (tsS.take i)).map V.str)) ∧ Same H7 H') ⟨upd_same, same_upd hD⟩ (fun i H' _ h => .of (h.2 _ _ rowS.lt.at_)) ?_ ?_
      · rintro i v H8 hi ⟨eD, sm⟩
        rw [List.getElem?_map] at hi
        obtain ⟨z, hz, rfl⟩ := Option.map_eq_some_iff.mp hi
        have tf := rowS.ok.few
        refine ⟨rfl, _, rfl, _, rfl, uF, _, _, V.ref tF, rfl, rfl, .of (sm _ _ rowF.eu), atI_nat (j := 1) rfl, tF, _, rfl, .inl (.of (sm _ _ rowF.lt.at_)), rfl, flat_strs _, _, rfl, ite2 (fun c => ?_) (fun c => ⟨?_, sm⟩)⟩
        · have h1 : inV (V.str z) (tsF.map V.str) = true := c
          rw [inV_str] at h1
          have h2 : z ∈ tsF := of_decide_eq_true h1
          refine ⟨_, rfl, _, eD, ?_, ?_, fun b x e => ?_⟩
          · rw [List.length_map]
            refine small1000 (Nat.le_trans (List.length_filter_le _ _) ?_)
            rw [List.length_take]; omega
          · rw [upd_same, List.take_add_one, hz, common_app, show common tsF (some z).toList = [z] from common_in h2 [], List.map_append]
            rfl
          · rw [upd_ne (ne_of_none e hD)]; exact sm b x e
        · have h1 : ¬ inV (V.str z) (tsF.map V.str) = true := c
          rw [inV_str] at h1
          have h2 : z ∉ tsF := by simpa using h1
          rw [List.take_add_one, hz, common_app, show common tsF (some z).toList = [] from common_out h2 [], List.append_nil]
          exact eD
      rintro H8 ⟨eD, sm⟩
      rw [List.length_map, List.take_length] at eD
      have s38 := s37.same sm
      have s78 : Std H7 H8 d g := (Std.refl s37.dk).same sm
      have rowF8 := rowF.kd s37.dk s78.kd
      have rowS8 := rowS.kd s37.dk s78.kd
      have row18 := row17.kd s37.dk s78.kd
      have row28 := row27.kd s37.dk s78.kd
      have lR8 := lR7.keep s78.kd
      have lD : Lat H8 d g D ((common tsF tsS).map V.str) := ⟨eD, dD.1, dD.2⟩
      clear rowF rowS row17 row27 lR7 eD dD hD sm s78 s57 s37 s35
      clear H7
      -- the errors
      refine ⟨_, rfl, d, g, 4, rfl, s38.dk, by decide, fun q os H9 s9 fq eq q1 q2 oin ol ond => ⟨q, rfl, ⟨_, .of eq⟩, ?_⟩⟩
      refine for_list (xs := os.map V.int) (fun j σ H' => Std H9 H' d g ∧ ∃ x8, σ = [some (.ref a), some (.ref d), some (.ref p), some (.int (0 + (i : Int))), some (.ref R), some (.ref uF), some (.ref uS), some (.ref D), x8, x9, x10, x11, x12, x13, x14, none, none, none]) ⟨Std.refl s9.dk, _, rfl⟩ (fun m σ H' _ h => .of (h.1.kd _ _ eq q1 q2)) ?_ ?_
      · rintro j v σ H10 hj ⟨s10, x8, rfl⟩
        obtain ⟨o, ho, rfl⟩ := List.mem_map.mp (List.mem_of_getElem? hj)
        have t10 := s9.trans s10
        have rowFa := rowF8.kd s38.dk t10.kd
        have rowSa := rowS8.kd s38.dk t10.kd
        have lDa := lD.keep t10.kd
        obtain ⟨_, _, _, _, krF⟩ := rowFa.bk.parts (K := K)
        obtain ⟨_, _, _, _, krS⟩ := rowSa.bk.parts (K := K)
        refine ⟨_, rfl, uF, _, _, V.ref bF, rfl, rfl, .of rowFa.eu, atI_nat (j := 0) rfl, _, rfl, uS, _, _, V.ref bS, rfl, rfl, .of rowSa.eu, atI_nat (j := 0) rfl, _, rfl, bF, bS, o, tsF, tsS, lsF, lsS, rfl, krF, krS, rowFa.ok, rowSa.ok, by omega, Nat.le_trans rowFa.few (by decide), Nat.le_trans rowSa.few (by decide), fun H11 y1 => ?_⟩
        have s10b := s10.same y1
        have lDb := lDa.keep (Same.kd y1)
        refine ⟨_, rfl, (by show 1 ≤ sizeLine; decide), fun L hL => ?_⟩
        have y2 := same_upd (o := .lst [V.non]) hL
        have eL := upd_same (H := H11) (a := L) (o := .lst [V.non])
        generalize upd H11 L (.lst [V.non]) = H12 at *
        refine ⟨D, L, _, _, rfl, rfl, y2 _ _ lDb.at_, eL, ?_, fun N hN => ?_⟩
        · rw [List.length_map]
          refine Nat.le_of_lt (small1000 ?_)
          have : (common tsF tsS).length ≤ tsS.length := List.length_filter_le _ _
          show _ + 1 ≤ 1000
          omega
        have y3 := same_upd (o := .lst ((common tsF tsS).map V.str ++ [V.non])) hN
        have eN := upd_same (H := H12) (a := N) (o := .lst ((common tsF tsS).map V.str ++ [V.non]))
        generalize upd H12 N (.lst ((common tsF tsS).map V.str ++ [V.non])) = H13 at *
        have y13 := (y1.trans y2).trans y3
        refine ⟨N, _, _, firstOf (common tsF tsS), rfl, rfl, .of eN, atI_nat (j := 0) (first_at _), first_scal _, _, rfl, iteNS rfl ?_⟩
        have rowFb := rowFa.kd t10.dk (Same.kd y13)
        have rowSb := rowSa.kd t10.dk (Same.kd y13)
        have s13 := s10.same y13
        obtain ⟨_, _, _, _, krF⟩ := rowFb.bk.parts (K := K)
        obtain ⟨_, _, _, _, krS⟩ := rowSb.bk.parts (K := K)
        refine ⟨_, rfl, uF, _, _, V.ref bF, rfl, rfl, .of rowFb.eu, atI_nat (j := 0) rfl, _, rfl, uS, _, _, V.ref bS, rfl, rfl, .of rowSb.eu, atI_nat (j := 0) rfl, _, rfl, bF, bS, o, tsF, tsS, lsF, lsS, rfl, krF, krS, rowFb.ok, rowSb.ok, by omega, Nat.le_trans rowFb.few (by decide), Nat.le_trans rowSb.few (by decide), fun H14 y4 => ?_⟩
        refine ⟨_, rfl, Nat.zero_le _, fun L2 hL2 => ?_⟩
        have y5 := same_upd (o := .lst []) hL2
        have eL2 := upd_same (H := H14) (a := L2) (o := .lst [])
        generalize upd H14 L2 (.lst []) = H15 at *
        have y45 := y4.trans y5
        refine ⟨tdata (common tsF tsS), tdata [], .lst (.of (y45 _ _ (lDa.keep (Same.kd y13)).at_)) dp_strs, .lst (.of eL2) .nil, com_ok rowS8.ok, rfl, ?_⟩
        rw [eqv_td, any_is]
        exact ⟨rfl, _, rfl, iteNS rfl ⟨s13.same y45, _, rfl⟩⟩
      rintro σ H10 ⟨s10, x8, rfl⟩
      have t10 := s9.trans s10
      have s310 := s38.trans t10
      have rowF := rowF8.kd s38.dk t10.kd
      have rowS := rowS8.kd s38.dk t10.kd
      have row1 := row18.kd s38.dk t10.kd
      have row2 := row28.kd s38.dk t10.kd
      have lR := lR8.keep t10.kd
      have lDa := lD.keep t10.kd
      clear rowF8 rowS8 row18 row28 lR8 lD t10 s10 s9 fq eq q1 q2 oin ol ond s38
      clear H8 H9
      -- no task in common
      refine ⟨fun σ' H' => ∃ x8 x9 x10 x11 x12 x13 x14, σ' = [some (.ref a), some (.ref d), some (.ref p), some (.int (0 + (i : Int))), some (.ref R), some (.ref uF), some (.ref uS), some (.ref D), x8, x9, x10, x11, x12, x13, x14, none, none, none] ∧ Std H10 H' d g, ?_, ?_⟩
      · refine ⟨_, rfl, Nat.zero_le _, fun L2 hL2 => ?_⟩
        have y5 := same_upd (o := .lst []) hL2
        have eL2 := upd_same (H := H10) (a := L2) (o := .lst [])
        generalize upd H10 L2 (.lst []) = H11 at *
        refine ⟨tdata (common tsF tsS), tdata [], .lst (.of (y5 _ _ lDa.at_)) dp_strs, .lst (.of eL2) .nil, com_ok rowS.ok, rfl, _, rfl, ?_⟩
        rw [eqv_td]
        refine ite2 (fun nc' => ?_) (fun _ => ⟨_, _, _, _, _, _, _, rfl, (Std.refl s310.dk).same y5⟩)
        have nc : common tsF tsS = [] := of_decide_eq_true nc'
        have s11 : Std H10 H11 d g := (Std.refl s310.dk).same y5
        clear y5 eL2 hL2
        have rowFa := rowF.kd s310.dk s11.kd
        have rowSa := rowS.kd s310.dk s11.kd
        have okj : TasksOk (tsF ++ tsS) := by
          rw [← uni_none nc]
          exact tasks_uni rowF.ok rowS.ok (by omega)
        -- made
        refine ⟨_, rfl, by decide, by decide, fun M hM => ?_⟩
        have dM := s11.dk.new hM
        refine lc_range (lo := 0) (n := 4) (fun i H' => ∃ xs : List Addr, Deck H' d g ∧ Kr d g M H11 H' ∧ H' M = some (.lst (xs.map V.ref)) ∧ xs.length = i ∧ ∀ (j : Nat) (x : Addr), xs[j]? = some x → BkM T.C_Book H' d g M x (tsF ++ tsS) (rulesOf (0 + (j : Int)) tsF tsS lsF lsS)) ?_ ?_ ?_
        · exact ⟨[], s11.dk.same (same_upd hM), (Same.kd (same_upd hM)).kr, upd_same, rfl, fun j x hx => by rw [List.getElem?_nil] at hx; cases hx⟩
        · rintro j H12 hj ⟨xs, hD12, kr12, eM, xl, bks⟩
          have fr : ∀ {b : Addr} {o : HO}, H11 b = some o → b ≠ M := fun e => ne_of_none e hM
          have lat : ∀ {b : Addr} {ys : List V}, Lat H11 d g b ys → Lat H12 d g b ys := fun l => ⟨kr12 _ _ l.at_ l.nd l.ng (fr l.at_), l.nd, l.ng⟩
          have tk : Tk H11 H12 := fun b ys e => by
            obtain ⟨gs, a, m, h1, h2, _⟩ := s11.dk
            exact kr12 b _ e (ne_of e h1 (by intro z; cases z)) (ne_of e h2 (by intro z; cases z)) (fr e)
          have bkr : ∀ {x : Addr} {ts : List Str} {ls : List (List Str)}, Bk T.C_Book H11 d g x ts ls → BkR K T.C_Book H12 x ts ls := fun {x ts ls} h => by
            obtain ⟨dx, p, q, h2, h3, as, h4, h5⟩ := h
            refine ⟨dx, p, q, as, ?_, (lat h3).at_, (lat h4).at_, h5.keep tk⟩
            obtain ⟨gs, a, m, g1, g2, _⟩ := s11.dk
            exact kr12 _ _ h2 (ne_of h2 g1 (by intro z; cases z)) (ne_of h2 g2 (by intro z; cases z)) (fr h2)
          refine ⟨rfl, _, rfl, uF, _, _, V.ref bF, rfl, rfl, .of (tk _ _ rowFa.eu), atI_nat (j := 0) rfl, _, rfl, uS, _, _, V.ref bS, rfl, rfl, .of (tk _ _ rowSa.eu), atI_nat (j := 0) rfl, _, rfl, bF, bS, _, tsF, tsS, lsF, lsS, rfl, bkr rowFa.bk, bkr rowSa.bk, rowF.ok, rowS.ok, by omega, Nat.le_trans rowF.few (by decide), Nat.le_trans rowS.few (by decide), fun _ x dx q1 q2 cs H13 s13 fp fq ex ep eq rl => ?_, fun z r cz => by rw [nc] at cz; cases cz⟩
          have eM13 := s13 _ _ eM
          have hD13 := hD12.same s13
          have bkx : BkM T.C_Book H13 d g M x (tsF ++ tsS) (rulesOf (0 + (j : Int)) tsF tsS lsF lsS) := ⟨dx, q1, q2, cs, ex, ⟨⟨ep, (hD12.new fp).1, (hD12.new fp).2⟩, (ne_of_none eM fp).symm⟩, ⟨⟨eq, (hD12.new fq).1, (hD12.new fq).2⟩, (ne_of_none eM fq).symm⟩, rl⟩
          refine ⟨xs.map V.ref, eM13, ?_, xs ++ [x], deck_mv hD13 dM, (kr12.trans (Same.kd s13).kr).trans kr_upd, by rw [upd_same, map_snoc_ref], by rw [List.length_append, xl]; rfl, fun j2 x2 hx => ?_⟩
          · rw [List.length_map]; exact small1000 (by omega)
          by_cases hi : j2 < xs.length
          · rw [List.getElem?_append_left hi] at hx
            exact ((bks j2 x2 hx).kr hD12 eM (Same.kd s13).kr).kr hD13 eM13 kr_upd
          · rw [List.getElem?_append_right (by omega)] at hx
            have e0 : j2 = j := by
              have := (List.getElem?_eq_some_iff.mp hx).1
              have : j2 - xs.length < 1 := this
              omega
            subst e0
            rw [xl, Nat.sub_self] at hx
            obtain rfl : x = x2 := Option.some.inj hx
            exact bkx.kr hD13 eM13 kr_upd
        rintro H12 ⟨xs, hD12, kr12, eM, xl, bks⟩
        match xs, xl with
        | [x0, x1, x2, x3], _ =>
          have s12 : Std H11 H12 d g := ⟨hD12, fun b o e n1 n2 => kr12 b o e n1 n2 (ne_of_none e hM)⟩
          have bk0 := (bks 0 x0 rfl).bk
          have bk1 := (bks 1 x1 rfl).bk
          have bk2 := (bks 2 x2 rfl).bk
          have bk3 := (bks 3 x3 rfl).bk
          have lM : Lat H12 d g M ([x0, x1, x2, x3].map V.ref) := ⟨eM, dM.1, dM.2⟩
          have s1012 := s11.trans s12
          have rowFb := rowFa.kd s11.dk s12.kd
          have rowSb := rowSa.kd s11.dk s12.kd
          clear bks eM kr12 hD12 rowFa rowSa s12 hM dM
          obtain ⟨asF, lrF, rlF⟩ := rowFb.rl
          obtain ⟨asS, lrS, rlS⟩ := rowSb.rl
          have lenF := rlF.len
          have lenS := rlS.len
          have ff := rowF.few
          have fs := rowS.few
          -- tasks and rules of both
          refine ⟨_, rfl, uF, _, _, V.ref tF, rfl, rfl, .of rowFb.eu, atI_nat (j := 1) rfl, _, rfl, uS, _, _, V.ref tS, rfl, rfl, .of rowSb.eu, atI_nat (j := 1) rfl, tF, tS, _, _, rfl, rfl, rowFb.lt.at_, rowSb.lt.at_, ?_, fun TL hTL => ?_⟩
          · rw [List.length_map, List.length_map]; exact Nat.le_of_lt (small1000 (by omega))
          have y1 : Std H12 (upd H12 TL (.lst (tsF.map V.str ++ tsS.map V.str))) d g := (Std.refl s1012.dk).new hTL
          have lTL : Lat (upd H12 TL (.lst (tsF.map V.str ++ tsS.map V.str))) d g TL ((tsF ++ tsS).map V.str) := by
            rw [List.map_append]
            exact Lat.new s1012.dk hTL
          generalize upd H12 TL (.lst (tsF.map V.str ++ tsS.map V.str)) = H13 at *
          refine ⟨_, rfl, uF, _, _, V.ref rF, rfl, rfl, .of (Kd.tk y1.kd s1012.dk _ _ rowFb.eu), atI_nat (j := 2) rfl, _, rfl, uS, _, _, V.ref rS, rfl, rfl, .of (Kd.tk y1.kd s1012.dk _ _ rowSb.eu), atI_nat (j := 2) rfl, rF, rS, _, _, rfl, rfl, (lrF.keep y1.kd).at_, (lrS.keep y1.kd).at_, ?_, fun RL hRL => ?_⟩
          · rw [List.length_map, List.length_map]; exact Nat.le_of_lt (small1000 (by omega))
          have y2 : Std H13 (upd H13 RL (.lst (asF.map V.ref ++ asS.map V.ref))) d g := (Std.refl y1.dk).new hRL
          have lRL : Lat (upd H13 RL (.lst (asF.map V.ref ++ asS.map V.ref))) d g RL ((asF ++ asS).map V.ref) := by
            rw [List.map_append]
            exact Lat.new y1.dk hRL
          generalize upd H13 RL (.lst (asF.map V.ref ++ asS.map V.ref)) = H14 at *
          have y12 := y1.trans y2
          have rl14 : Rls (tsF ++ tsS) H14 (asF ++ asS) (lsF ++ lsS) := ((rlS.more fun z hz => List.mem_append_right _ hz).app (rlF.more fun z hz => List.mem_append_left _ hz)).keep (Kd.tk y12.kd s1012.dk)
          have rowFc := rowFb.kd s1012.dk y12.kd
          have rowSc := rowSb.kd s1012.dk y12.kd
          have c0 := bk0.keep s1012.dk y12.kd
          have c1 := bk1.keep s1012.dk y12.kd
          have c2 := bk2.keep s1012.dk y12.kd
          have c3 := bk3.keep s1012.dk y12.kd
          have lM14 := lM.keep y12.kd
          have lTL14 := lTL.keep y2.kd
          have s14 := s1012.trans y12
          clear lM lTL bk0 bk1 bk2 bk3 rowFb rowSb rlF rlS lrF lrS y12 y2 y1 hTL hRL s1012
          -- beside is the joined one
          obtain ⟨dF, _, _, eF, krF⟩ := rowFc.bk.parts (K := K)
          obtain ⟨dS, _, _, eS, krS⟩ := rowSc.bk.parts (K := K)
          refine ⟨_, rfl, M, _, _, V.ref x0, rfl, rfl, .of lM14.at_, atI_nat (j := 0) rfl, _, rfl, uF, _, _, V.ref bF, rfl, rfl, .of rowFc.eu, atI_nat (j := 0) rfl, _, rfl, uS, _, _, V.ref bS, rfl, rfl, .of rowSc.eu, atI_nat (j := 0) rfl, bF, bS, dF, dS, _, _, rfl, rfl, eF, eS, bF, bS, tsF, tsS, lsF, lsS, rfl, krF, krS, rowF.ok, rowS.ok, by omega, by omega, by omega, fun y dy q1 q2 cs H15 z15 fp fq ey ep eq rl => ?_⟩
          have s15 := s14.same z15
          have hD15 := s15.dk
          have s1415 : Std H14 H15 d g := (Std.refl s14.dk).same z15
          have d0 := c0.keep s14.dk s1415.kd
          obtain ⟨dx0, _, _, ex0, kr0⟩ := d0.parts (K := K)
          rw [uni_none nc] at ep rl
          refine ⟨x0, y, dx0, dy, _, _, rfl, rfl, ex0, ey, x0, y, tsF ++ tsS, tsF ++ tsS, lsF ++ lsS, lsF ++ lsS, rfl, kr0, ⟨dy, q1, q2, cs, ey, ep, eq, rl⟩, okj, okj, ?_⟩
          rw [eqv_td, eqv_rs, decide_eq_true rfl, decide_eq_true rfl]
          refine ⟨_, _, rfl, rfl, _, rfl, iteNS rfl ?_⟩
          refine ⟨_, rfl, _, rfl, M, _, _, V.ref x2, rfl, rfl, .of (lM14.keep s1415.kd).at_, atI_nat (j := 2) rfl, _, rfl, _, rfl, d, g, x2, TL, RL, tsF ++ tsS, lsF ++ lsS, rfl, hD15, c2.keep s14.dk s1415.kd, lTL14.keep s1415.kd, ⟨_, lRL.keep s1415.kd, rl14.keep (Kd.tk s1415.kd s14.dk)⟩, okj, by rw [List.length_append]; omega, fun H16 s16 => ?_⟩
          have t16 : Std H14 H16 d g := s1415.trans s16
          have s1016 := s14.trans t16
          have rowFd := rowFc.kd s14.dk t16.kd
          have rowSd := rowSc.kd s14.dk t16.kd
          have e1 := c1.keep s14.dk t16.kd
          have e3 := c3.keep s14.dk t16.kd
          have e0 := c0.keep s14.dk t16.kd
          have lM16 := lM14.keep t16.kd
          have lTL16 := lTL14.keep t16.kd
          have lRL16 := lRL.keep t16.kd
          have rl16 := rl14.keep (Kd.tk t16.kd s14.dk)
          clear c0 c1 c2 c3 lM14 lTL14 lRL rl14 rowFc rowSc krF krS eF eS d0 ex0 kr0 rl eq ep ey fp fq z15 s15 hD15 s1415 s16 t16 s14
          have prod : tsF.length * tsS.length ≤ 36 := prod36 _ (by omega) _ (by omega) sumF
          refine ⟨_, rfl, ?_⟩
          -- the rules of then
          refine ⟨_, rfl, uF, _, _, V.ref tF, rfl, rfl, .of rowFd.eu, atI_nat (j := 1) rfl, tF, rfl, ⟨_, .of rowFd.lt.at_⟩, ?_⟩
          refine for_list (xs := tsF.map V.str) (fun j σ H' => ∃ (x12 : Option V) (RL : Addr) (es : List Addr), σ = [some (.ref a), some (.ref d), some (.ref p), some (.int (0 + (i : Int))), some (.ref R), some (.ref uF), some (.ref uS), some (.ref D), x8, some (.ref M), some (.ref TL), some (.ref RL), x12, x13, x14, none, none, none] ∧ Std H16 H' d g ∧
            Lat H' d g RL (es.map V.ref) ∧ Rls (tsF ++ tsS) H' es ((lsF ++ lsS) ++ prs (tsF.take j) tsS) ∧ es.length = (lsF ++ lsS).length + j * tsS.length) ?_ (fun m σ H' _ h => ?_) ?_ ?_
          · refine ⟨_, RL, _, rfl, Std.refl s1016.dk, lRL16, ?_, ?_⟩
            · show Rls _ _ _ ((lsF ++ lsS) ++ [])
              rw [List.append_nil]
              exact rl16
            · rw [List.length_append, List.length_append]; omega
          · obtain ⟨_, _, _, _, s, _⟩ := h
            exact .of (rowFd.lt.keep s.kd).at_
          · rintro j v σ H17 hj ⟨x12, RL', es, rfl, s17, lR17, rl17, el⟩
            rw [List.getElem?_map] at hj
            obtain ⟨y1, hy, rfl⟩ := Option.map_eq_some_iff.mp hj
            have jl := (List.getElem?_eq_some_iff.mp hy).1
            have ym := List.mem_of_getElem? hy
            have lS17 := rowSd.lt.keep s17.kd
            refine ⟨_, rfl, _, rfl, uS, _, _, V.ref tS, rfl, rfl, .of (Kd.tk s17.kd s1016.dk _ _ rowSd.eu), atI_nat (j := 1) rfl, tS, rfl, ⟨_, .of lS17.at_⟩, fun D2 hD2 => ?_⟩
            have dD2 := s17.dk.new hD2
            refine lc_list (xs := tsS.map V.str) (fun i H' => ∃ fs : List Addr, H' D2 = some (.lst (fs.map V.ref)) ∧ Rls (tsF ++ tsS) H' fs ((tsS.take i).map fun z => [("before" : Str), y1, z]) ∧ fs.length = i ∧ Same H17 H') ⟨[], upd_same, .nil, rfl, same_upd hD2⟩ ?_ ?_ ?_
            · rintro i H' _ ⟨_, _, _, _, sm⟩
              exact .of (sm _ _ lS17.at_)
            · rintro i v H18 hi ⟨fs', eD2, rf, fl2, sm⟩
              rw [List.getElem?_map] at hi
              obtain ⟨z, hz, rfl⟩ := Option.map_eq_some_iff.mp hi
              have zl := (List.getElem?_eq_some_iff.mp hz).1
              have zm := List.mem_of_getElem? hz
              refine ⟨rfl, _, rfl, _, rfl, (by show 3 ≤ sizeLine; decide), fun u hu => ⟨fs'.map V.ref, same_upd hu _ _ eD2, ?_, fs' ++ [u], ?_, ?_, ?_, ?_⟩⟩
              · rw [List.length_map]; exact small1000 (by omega)
              · rw [upd_same, map_snoc_ref]
              · rw [List.take_add_one, hz, List.map_append]
                exact ((rf.keep (Same.tk (same_upd hu))).snoc (l := [("before" : Str), y1, z]) upd_same (.inr ⟨_, y1, z, by decide +kernel, List.mem_append_left _ ym, List.mem_append_right _ zm, apart_of nc y1 ym z zm, rfl⟩)).keep (tk_mut (same_upd hu _ _ eD2))
              · rw [List.length_append, fl2]; rfl
              · intro b o e
                rw [upd_ne (ne_of_none e hD2)]
                exact same_upd hu _ _ (sm _ _ e)
            rintro H18 ⟨fs', eD2, rf, fl2, sm⟩
            rw [List.length_map, List.take_length] at rf
            rw [List.length_map] at fl2
            have cnt : (lsF ++ lsS).length + j * tsS.length + tsS.length ≤ 52 := by
              have h1 : (j + 1) * tsS.length ≤ tsF.length * tsS.length := Nat.mul_le_mul_right _ jl
              rw [Nat.add_mul, Nat.one_mul] at h1
              rw [List.length_append]
              omega
            refine ⟨RL', D2, _, _, rfl, rfl, sm _ _ lR17.at_, eD2, ?_, fun N hN => ?_⟩
            · rw [List.length_map, List.length_map]; exact Nat.le_of_lt (small1000 (by omega))
            have y3 := same_upd (o := .lst (es.map V.ref ++ fs'.map V.ref)) hN
            have s18 := (s17.same sm)
            refine ⟨_, N, es ++ fs', rfl, s18.same y3, ?_, ?_, ?_⟩
            · rw [List.map_append]
              exact Lat.new s18.dk hN
            · have e5 : (lsF ++ lsS) ++ prs (tsF.take (j + 1)) tsS = ((lsF ++ lsS) ++ prs (tsF.take j) tsS) ++ tsS.map fun z => [("before" : Str), y1, z] := by
                have hp : prs (tsF.take (j + 1)) tsS = prs (tsF.take j) tsS ++ tsS.map fun z => [("before" : Str), y1, z] := by
                  rw [List.take_add_one, hy]
                  unfold prs
                  rw [List.flatMap_append]
                  simp
                rw [hp]
                exact (List.append_assoc _ _ _).symm
              rw [e5]
              exact (rf.app (rl17.keep (Same.tk sm))).keep (Same.tk y3)
            · rw [List.length_append, el, fl2, Nat.add_mul]; omega
          rintro σ H17 ⟨x12, RL', es, rfl, s17, lR17, rl17, el⟩
          rw [List.length_map, List.take_length] at rl17
          have f1 := e1.keep s1016.dk s17.kd
          have f3 := e3.keep s1016.dk s17.kd
          have f0 := e0.keep s1016.dk s17.kd
          have rowFe := rowFd.kd s1016.dk s17.kd
          have rowSe := rowSd.kd s1016.dk s17.kd
          have lM17 := lM16.keep s17.kd
          have lTL17 := lTL16.keep s17.kd
          have s1017 := s1016.trans s17
          have plen : ((lsF ++ lsS) ++ prs tsF tsS).length ≤ 1000 := by
            rw [List.length_append, List.length_append, prs_len]
            omega
          clear e0 e1 e3 lM16 lTL16 lRL16 rl16 rowFd rowSd s17 s1016
          -- both ways of then
          refine ⟨(by show 2 ≤ sizeLine; decide), fun W hW => ?_⟩
          have y4 := same_upd (o := .tup [.int 1, .int 3]) hW
          have eW := upd_same (H := H17) (a := W) (o := .tup [.int 1, .int 3])
          generalize upd H17 W (.tup [.int 1, .int 3]) = H18 at *
          have z18 : Std H17 H18 d g := (Std.refl s1017.dk).same y4
          refine ⟨W, rfl, ⟨_, .of eW⟩, for_tup (xs := [1, 3].map V.int) (fun j σ H' => Std H17 H' d g ∧ H' W = some (.tup ([1, 3].map V.int)) ∧ ∃ x8, σ = [some (.ref a), some (.ref d), some (.ref p), some (.int (0 + (i : Int))), some (.ref R), some (.ref uF), some (.ref uS), some (.ref D), x8, some (.ref M), some (.ref TL), some (.ref RL'), x12, x13, x14, none, none, none]) ⟨z18, eW, _, rfl⟩ (fun m σ H' _ h => .of h.2.1) ?_ ?_⟩
          · rintro j v σ H19 hj ⟨s19, eW19, x8, rfl⟩
            have pick : ∃ (n : Nat) (x : Addr), v = V.int (n : Int) ∧ ([x0, x1, x2, x3].map V.ref)[n]? = some (V.ref x) ∧ Bk T.C_Book H17 d g x (tsF ++ tsS) ((lsF ++ lsS) ++ prs tsF tsS) := by
              match j, hj with
              | 0, hj => exact ⟨1, x1, (Option.some.inj hj).symm, rfl, f1⟩
              | 1, hj => exact ⟨3, x3, (Option.some.inj hj).symm, rfl, f3⟩
            obtain ⟨n2, x, rfl, gx, bx⟩ := pick
            refine ⟨_, rfl, _, rfl, _, rfl, M, _, _, V.ref x, rfl, rfl, .of (lM17.keep s19.kd).at_, at_of (j := n2) rfl gx, _, rfl, _, rfl, d, g, x, TL, RL', tsF ++ tsS, (lsF ++ lsS) ++ prs tsF tsS, rfl, s19.dk, bx.keep s1017.dk s19.kd, lTL17.keep s19.kd, ⟨_, lR17.keep s19.kd, rl17.keep (Kd.tk s19.kd s1017.dk)⟩, okj, plen, fun H20 s20 => ⟨_, rfl, s19.trans s20, Kd.tk s20.kd s19.dk _ _ eW19, _, rfl⟩⟩
          rintro σ H19 ⟨s19, _, x8, rfl⟩
          obtain ⟨asF2, lrF2, rlF2⟩ := rowFe.rl
          obtain ⟨asS2, lrS2, rlS2⟩ := rowSe.rl
          refine ⟨2, rfl, by decide, by decide, for_range (n := 2) (fun j σ H' => Std H17 H' d g ∧ ∃ x13, σ = [some (.ref a), some (.ref d), some (.ref p), some (.int (0 + (i : Int))), some (.ref R), some (.ref uF), some (.ref uS), some (.ref D), x8, some (.ref M), some (.ref TL), some (.ref RL'), x12, x13, x14, none, none, none]) ⟨s19, _, rfl⟩ ?_ ?_⟩
          · rintro j σ H20 hj ⟨s20, x13, rfl⟩
            have rowFf := rowFe.kd s1017.dk s20.kd
            have rowSf := rowSe.kd s1017.dk s20.kd
            exact ⟨_, rfl, _, rfl, _, rfl, _, rfl, d, g, M, uF, uS, x0, x1, x2, x3, bF, tF, rF, bS, tS, rS, tsF, tsS, lsF, lsS, asF2, asS2, rfl, s20.dk, lM17.keep s20.kd, rowFf.eu, rowSf.eu, f0.keep s1017.dk s20.kd, f1.keep s1017.dk s20.kd,
              rowFf.lt, lrF2.keep s20.kd, rlF2.keep (Kd.tk s20.kd s1017.dk), rowSf.lt, lrS2.keep s20.kd, rlS2.keep (Kd.tk s20.kd s1017.dk), rowF.ok, rowS.ok, nc, by omega, by omega, by omega, fun H21 s21 => ⟨_, rfl, s20.trans s21, _, rfl⟩⟩
          · rintro σ H20 ⟨s20, x13, rfl⟩
            exact ⟨_, _, _, _, _, _, _, rfl, s1017.trans s20⟩
      -- at the end
      rintro σ H11 ⟨x8, x9, x10, x11, x12, x13, x14, rfl, s11⟩
      have lR11 := lR.keep s11.kd
      refine ⟨_, rfl, R, rfl, ⟨_, .of lR11.at_⟩, for_list (xs := [u1, u2].map V.ref) (fun j σ H' => Std H11 H' d g ∧ ∃ x10 x11 x14, σ = [some (.ref a), some (.ref d), some (.ref p), some (.int (0 + (i : Int))), some (.ref R), some (.ref uF), some (.ref uS), some (.ref D), x8, x9, x10, x11, x12, x13, x14, none, none, none]) ⟨Std.refl s11.dk, _, _, _, rfl⟩ (fun m σ H' _ h => .of (lR11.keep h.1.kd).at_) ?_ ?_⟩
      · rintro j v σ H12 hj ⟨s12, x10, x11, x14, rfl⟩
        have t12 := s11.trans s12
        have r1 := row1.kd s310.dk t12.kd
        have r2 := row2.kd s310.dk t12.kd
        have pick : ∃ u b t r us ls, v = V.ref u ∧ RowT T.C_Book H12 d g u b t r us ls := by
          match j, hj with
          | 0, hj => exact ⟨_, _, _, _, _, _, (Option.some.inj hj).symm, r1⟩
          | 1, hj => exact ⟨_, _, _, _, _, _, (Option.some.inj hj).symm, r2⟩
        obtain ⟨u, b, t, r, us, ls, rfl, row⟩ := pick
        refine ⟨u, _, rfl, .of row.eu, rfl, _, _, rfl, _, _, rfl, _, _, rfl, rfl, ?_⟩
        exact ⟨_, rfl, _, rfl, _, rfl, _, rfl, d, g, b, t, r, us, ls, rfl, s12.dk, row.bk, row.lt, row.rl, row.ok, Nat.le_trans row.few (by decide), fun H13 s13 => ⟨_, rfl, s12.trans s13, _, _, _, rfl⟩⟩
      · rintro σ H12 ⟨s12, x10, x11, x14, rfl⟩
        exact ⟨_, _, _, _, _, _, _, _, _, _, _, _, rfl, (s310.trans s11).trans s12⟩
    · rintro σ H5 ⟨_, _, _, _, _, _, _, _, _, _, _, _, rfl, _⟩
      exact k _
end
set_option maxHeartbeats 8000000 in
theorem all_mk {l : PySem.W.OpenLaw} {w : World} {K : PySem.W.Frag} {h : Heap} {mg : Str → Option Value} {fa f_PlanError_init f_is_name f_check_tasks f_check_rule f_is_kept f_Book_init f_Book_tasks f_Book_rules f_Book_keeps f_Book_with_rules f_Book_beside f_Book_then f_Book_and f_Book_len f_Book_eq f_law_deck f_law_draw f_law_names f_law_rule f_law_order f_law_shows f_law_some f_law_great f_law_days f_law_number f_law_kept f_law_is_plan f_law_call f_law_raised f_law_based f_law_then_right f_law_two f_law : Addr} (X : K.In h) (G : h.Ns mainGlobals mg) (hfa : mg "law" = some (.ref fa))
    {C_Book : Addr}
    {C_DoubleName C_PlanError : Addr}
    {nm_DoubleName q_DoubleName : Str} {N_DoubleName : Addr} {bs_DoubleName : List Value} {sn_DoubleName : List Str} {sub_DoubleName : List Value} {ab_DoubleName : Bool} {col_DoubleName : Option Bool} {dd_DoubleName : Option Addr} {k0_DoubleName k1_DoubleName k2_DoubleName k3_DoubleName k5_DoubleName : Option Value}
    {d__TASKS_IN : Addr} {e__TASKS_IN : Array DictEntry} {i__TASKS_IN : Nat}
    {t__TASKS_IN_before : Tok}
    {t__TASKS_IN_upto : Tok}
    {t__TASKS_IN_same : Tok}
    {t__TASKS_IN_apart : Tok}
    {t__TASKS_IN_far : Tok}
    {t__TASKS_IN_next : Tok}
    {t__TASKS_IN_first : Tok}
    {t__TASKS_IN_last : Tok}
    {t__LONGEST_NAME : Tok}
    {od_PlanError_init an_PlanError_init : Option Addr} {sl_PlanError_init : Array (Option Value)} {oc_PlanError_init kV_PlanError_init dc_PlanError_init pm_PlanError_init cd_PlanError_init ct_PlanError_init : Value}
    {od_is_name an_is_name : Option Addr} {sl_is_name : Array (Option Value)} {oc_is_name kV_is_name dc_is_name pm_is_name cd_is_name ct_is_name : Value}
    {od_check_tasks an_check_tasks : Option Addr} {sl_check_tasks : Array (Option Value)} {oc_check_tasks kV_check_tasks dc_check_tasks pm_check_tasks cd_check_tasks ct_check_tasks : Value}
    {od_check_rule an_check_rule : Option Addr} {sl_check_rule : Array (Option Value)} {oc_check_rule kV_check_rule dc_check_rule pm_check_rule cd_check_rule ct_check_rule : Value}
    {od_is_kept an_is_kept : Option Addr} {sl_is_kept : Array (Option Value)} {oc_is_kept kV_is_kept dc_is_kept pm_is_kept cd_is_kept ct_is_kept : Value}
    {od_Book_init an_Book_init : Option Addr} {sl_Book_init : Array (Option Value)} {oc_Book_init kV_Book_init dc_Book_init pm_Book_init cd_Book_init ct_Book_init : Value}
    {od_Book_tasks an_Book_tasks : Option Addr} {sl_Book_tasks : Array (Option Value)} {oc_Book_tasks kV_Book_tasks dc_Book_tasks pm_Book_tasks cd_Book_tasks ct_Book_tasks : Value}
    {p_Book_tasks : Addr} {r_Book_tasks : List Value}
    {od_Book_rules an_Book_rules : Option Addr} {sl_Book_rules : Array (Option Value)} {oc_Book_rules kV_Book_rules dc_Book_rules pm_Book_rules cd_Book_rules ct_Book_rules : Value}
    {p_Book_rules : Addr} {r_Book_rules : List Value}
    {od_Book_keeps an_Book_keeps : Option Addr} {sl_Book_keeps : Array (Option Value)} {oc_Book_keeps kV_Book_keeps dc_Book_keeps pm_Book_keeps cd_Book_keeps ct_Book_keeps : Value}
    {od_Book_with_rules an_Book_with_rules : Option Addr} {sl_Book_with_rules : Array (Option Value)} {oc_Book_with_rules kV_Book_with_rules dc_Book_with_rules pm_Book_with_rules cd_Book_with_rules ct_Book_with_rules : Value}
    {od_Book_beside an_Book_beside : Option Addr} {sl_Book_beside : Array (Option Value)} {oc_Book_beside kV_Book_beside dc_Book_beside pm_Book_beside cd_Book_beside ct_Book_beside : Value}
    {od_Book_then an_Book_then : Option Addr} {sl_Book_then : Array (Option Value)} {oc_Book_then kV_Book_then dc_Book_then pm_Book_then cd_Book_then ct_Book_then : Value}
    {od_Book_and an_Book_and : Option Addr} {sl_Book_and : Array (Option Value)} {oc_Book_and kV_Book_and dc_Book_and pm_Book_and cd_Book_and ct_Book_and : Value}
    {od_Book_len an_Book_len : Option Addr} {sl_Book_len : Array (Option Value)} {oc_Book_len kV_Book_len dc_Book_len pm_Book_len cd_Book_len ct_Book_len : Value}
    {od_Book_eq an_Book_eq : Option Addr} {sl_Book_eq : Array (Option Value)} {oc_Book_eq kV_Book_eq dc_Book_eq pm_Book_eq cd_Book_eq ct_Book_eq : Value}
    {od_law_deck an_law_deck : Option Addr} {sl_law_deck : Array (Option Value)} {oc_law_deck kV_law_deck dc_law_deck pm_law_deck cd_law_deck ct_law_deck : Value}
    {od_law_draw an_law_draw : Option Addr} {sl_law_draw : Array (Option Value)} {oc_law_draw kV_law_draw dc_law_draw pm_law_draw cd_law_draw ct_law_draw : Value}
    {od_law_names an_law_names : Option Addr} {sl_law_names : Array (Option Value)} {oc_law_names kV_law_names dc_law_names pm_law_names cd_law_names ct_law_names : Value}
    {od_law_rule an_law_rule : Option Addr} {sl_law_rule : Array (Option Value)} {oc_law_rule kV_law_rule dc_law_rule pm_law_rule cd_law_rule ct_law_rule : Value}
    {od_law_order an_law_order : Option Addr} {sl_law_order : Array (Option Value)} {oc_law_order kV_law_order dc_law_order pm_law_order cd_law_order ct_law_order : Value}
    {od_law_shows an_law_shows : Option Addr} {sl_law_shows : Array (Option Value)} {oc_law_shows kV_law_shows dc_law_shows pm_law_shows cd_law_shows ct_law_shows : Value}
    {od_law_some an_law_some : Option Addr} {sl_law_some : Array (Option Value)} {oc_law_some kV_law_some dc_law_some pm_law_some cd_law_some ct_law_some : Value}
    {od_law_great an_law_great : Option Addr} {sl_law_great : Array (Option Value)} {oc_law_great kV_law_great dc_law_great pm_law_great cd_law_great ct_law_great : Value}
    {od_law_days an_law_days : Option Addr} {sl_law_days : Array (Option Value)} {oc_law_days kV_law_days dc_law_days pm_law_days cd_law_days ct_law_days : Value}
    {od_law_number an_law_number : Option Addr} {sl_law_number : Array (Option Value)} {oc_law_number kV_law_number dc_law_number pm_law_number cd_law_number ct_law_number : Value}
    {od_law_kept an_law_kept : Option Addr} {sl_law_kept : Array (Option Value)} {oc_law_kept kV_law_kept dc_law_kept pm_law_kept cd_law_kept ct_law_kept : Value}
    {od_law_is_plan an_law_is_plan : Option Addr} {sl_law_is_plan : Array (Option Value)} {oc_law_is_plan kV_law_is_plan dc_law_is_plan pm_law_is_plan cd_law_is_plan ct_law_is_plan : Value}
    {od_law_call an_law_call : Option Addr} {sl_law_call : Array (Option Value)} {oc_law_call kV_law_call dc_law_call pm_law_call cd_law_call ct_law_call : Value}
    {od_law_raised an_law_raised : Option Addr} {sl_law_raised : Array (Option Value)} {oc_law_raised kV_law_raised dc_law_raised pm_law_raised cd_law_raised ct_law_raised : Value}
    {od_law_based an_law_based : Option Addr} {sl_law_based : Array (Option Value)} {oc_law_based kV_law_based dc_law_based pm_law_based cd_law_based ct_law_based : Value}
    {od_law_then_right an_law_then_right : Option Addr} {sl_law_then_right : Array (Option Value)} {oc_law_then_right kV_law_then_right dc_law_then_right pm_law_then_right cd_law_then_right ct_law_then_right : Value}
    {od_law_two an_law_two : Option Addr} {sl_law_two : Array (Option Value)} {oc_law_two kV_law_two dc_law_two pm_law_two cd_law_two ct_law_two : Value}
    {od_law an_law : Option Addr} {sl_law : Array (Option Value)} {oc_law kV_law dc_law pm_law cd_law ct_law : Value}
    (aC_Book : PySem.W.nsIn K mainGlobals "Book" = some (some (.ref C_Book)))
    (pg_Book : PySem.W.plainGet K C_Book Str.empty = true)
    (hd_Book : PySem.W.hasDictIn K C_Book = true)
    (po_Book : PySem.W.plainOver K C_Book = true)
    (sa_Book : PySem.W.findIn K (.ref C_Book) "__setattr__" = some (some (.builtin "object.__setattr__")))
    (ms_Book : PySem.W.makesIn K C_Book = true)
    (kc_Book : PySem.W.keepIn K (.ref C_Book) = true)
    (n_Book_tasks : PySem.W.findIn K (.ref C_Book) "_tasks" = some none)
    (n_Book_rules : PySem.W.findIn K (.ref C_Book) "_rules" = some none)
    (aC_DoubleName : PySem.W.nsIn K mainGlobals "DoubleName" = some (some (.ref C_DoubleName)))
    (eC_DoubleName : PySem.W.subIn K (.ref C_DoubleName) (.type "BaseException") = some true)
    (tC_DoubleName : PySem.W.typeIn K (.ref C_DoubleName) = some (.type "type"))
    (hC_DoubleName : PySem.W.hasDictIn K C_DoubleName = true)
    (xL_DoubleName : K.lookup C_DoubleName = some (excClassObj nm_DoubleName q_DoubleName C_DoubleName N_DoubleName bs_DoubleName [.ref C_PlanError, .type "ValueError", .type "Exception", .type "BaseException", .type "object"] true sn_DoubleName sub_DoubleName ab_DoubleName col_DoubleName dd_DoubleName k0_DoubleName k1_DoubleName k2_DoubleName k3_DoubleName k5_DoubleName "ValueError.__new__"))
    (sa_DoubleName : PySem.W.findIn K (.ref C_DoubleName) "__setattr__" = some (some (.builtin "object.__setattr__")))
    (ga_DoubleName : PySem.W.findIn K (.ref C_DoubleName) "__getattribute__" = some (some (.builtin "BaseException.__getattribute__")))
    (gt_DoubleName : PySem.W.findIn K (.ref C_DoubleName) "__getattr__" = some none)
    (nv_DoubleName : PySem.W.findIn K (.ref C_DoubleName) "value" = some none)
    (ic_DoubleName : PySem.W.findIn K (.ref C_DoubleName) "__init__" = some (some (.ref f_PlanError_init)))
    (kC_DoubleName : PySem.W.keepIn K (.ref C_DoubleName) = true)
    (aC_PlanError : PySem.W.nsIn K mainGlobals "PlanError" = some (some (.ref C_PlanError)))
    (eC_PlanError : PySem.W.subIn K (.ref C_PlanError) (.type "BaseException") = some true)
    (tC_PlanError : PySem.W.typeIn K (.ref C_PlanError) = some (.type "type"))
    (hC_PlanError : PySem.W.hasDictIn K C_PlanError = true)
    (xca_DoubleName : PySem.W.findIn K (.ref C_DoubleName) "__class__" = some (some (.builtin "object.__class__")))
    (xcn_DoubleName : PySem.W.specialIn K (.builtin "object.__class__") "__get__" = some (some (.builtin "getset_descriptor.__get__")))
    (xct_DoubleName : PySem.W.takesIn K (.builtin "object.__class__") = some true)
    (xcm_DoubleName : PySem.W.mroIn K C_DoubleName (.type "object") = some true)
    (ti : PySem.W.typeIn K (.ref f_PlanError_init) = some (.type "function"))
    (sb_DoubleName_DoubleName : PySem.W.subIn K (.ref C_DoubleName) (.ref C_DoubleName) = some true)
    (sb_DoubleName_PlanError : PySem.W.subIn K (.ref C_DoubleName) (.ref C_PlanError) = some true)
    (ga__TASKS_IN : PySem.W.nsIn K mainGlobals "_TASKS_IN" = some (some (.ref d__TASKS_IN)))
    (gl__TASKS_IN : K.lookup d__TASKS_IN = some ⟨.type "dict", none, .dict e__TASKS_IN i__TASKS_IN, #[]⟩)
    (gk__TASKS_IN : PySem.W.KeysLit w.params e__TASKS_IN.toList)
    (gs__TASKS_IN : (d__TASKS_IN == sysModules) = false)
    (gv__TASKS_IN_before : PySem.W.nsIn K d__TASKS_IN "before" = some (some (.int 2 t__TASKS_IN_before)))
    (gv__TASKS_IN_upto : PySem.W.nsIn K d__TASKS_IN "upto" = some (some (.int 2 t__TASKS_IN_upto)))
    (gv__TASKS_IN_same : PySem.W.nsIn K d__TASKS_IN "same" = some (some (.int 2 t__TASKS_IN_same)))
    (gv__TASKS_IN_apart : PySem.W.nsIn K d__TASKS_IN "apart" = some (some (.int 2 t__TASKS_IN_apart)))
    (gv__TASKS_IN_far : PySem.W.nsIn K d__TASKS_IN "far" = some (some (.int 2 t__TASKS_IN_far)))
    (gv__TASKS_IN_next : PySem.W.nsIn K d__TASKS_IN "next" = some (some (.int 2 t__TASKS_IN_next)))
    (gv__TASKS_IN_first : PySem.W.nsIn K d__TASKS_IN "first" = some (some (.int 1 t__TASKS_IN_first)))
    (gv__TASKS_IN_last : PySem.W.nsIn K d__TASKS_IN "last" = some (some (.int 1 t__TASKS_IN_last)))
    (gv__LONGEST_NAME : PySem.W.nsIn K mainGlobals "_LONGEST_NAME" = some (some (.int 8 t__LONGEST_NAME)))
    (l_PlanError_init : K.lookup f_PlanError_init = some ⟨oc_PlanError_init, od_PlanError_init, .func (PySem.W.fnOf "__init__" "PlanError.__init__" (defArgs s_PlanError_init) (defBody s_PlanError_init) (defScope s_PlanError_init) .none kV_PlanError_init dc_PlanError_init pm_PlanError_init an_PlanError_init cd_PlanError_init ct_PlanError_init), sl_PlanError_init⟩)
    (c_PlanError_init : PySem.W.codeIn K cd_PlanError_init "PlanError.__init__" = true)
    (k_PlanError_init : PySem.W.keepIn K (.ref f_PlanError_init) = true)
    (a_is_name : PySem.W.nsIn K mainGlobals "_is_name" = some (some (.ref f_is_name)))
    (l_is_name : K.lookup f_is_name = some ⟨oc_is_name, od_is_name, .func (PySem.W.fnOf "_is_name" "_is_name" (defArgs s_is_name) (defBody s_is_name) (defScope s_is_name) .none kV_is_name dc_is_name pm_is_name an_is_name cd_is_name ct_is_name), sl_is_name⟩)
    (c_is_name : PySem.W.codeIn K cd_is_name "_is_name" = true)
    (k_is_name : PySem.W.keepIn K (.ref f_is_name) = true)
    (a_check_tasks : PySem.W.nsIn K mainGlobals "_check_tasks" = some (some (.ref f_check_tasks)))
    (l_check_tasks : K.lookup f_check_tasks = some ⟨oc_check_tasks, od_check_tasks, .func (PySem.W.fnOf "_check_tasks" "_check_tasks" (defArgs s_check_tasks) (defBody s_check_tasks) (defScope s_check_tasks) .none kV_check_tasks dc_check_tasks pm_check_tasks an_check_tasks cd_check_tasks ct_check_tasks), sl_check_tasks⟩)
    (c_check_tasks : PySem.W.codeIn K cd_check_tasks "_check_tasks" = true)
    (k_check_tasks : PySem.W.keepIn K (.ref f_check_tasks) = true)
    (a_check_rule : PySem.W.nsIn K mainGlobals "_check_rule" = some (some (.ref f_check_rule)))
    (l_check_rule : K.lookup f_check_rule = some ⟨oc_check_rule, od_check_rule, .func (PySem.W.fnOf "_check_rule" "_check_rule" (defArgs s_check_rule) (defBody s_check_rule) (defScope s_check_rule) .none kV_check_rule dc_check_rule pm_check_rule an_check_rule cd_check_rule ct_check_rule), sl_check_rule⟩)
    (c_check_rule : PySem.W.codeIn K cd_check_rule "_check_rule" = true)
    (k_check_rule : PySem.W.keepIn K (.ref f_check_rule) = true)
    (a_is_kept : PySem.W.nsIn K mainGlobals "is_kept" = some (some (.ref f_is_kept)))
    (l_is_kept : K.lookup f_is_kept = some ⟨oc_is_kept, od_is_kept, .func (PySem.W.fnOf "is_kept" "is_kept" (defArgs s_is_kept) (defBody s_is_kept) (defScope s_is_kept) .none kV_is_kept dc_is_kept pm_is_kept an_is_kept cd_is_kept ct_is_kept), sl_is_kept⟩)
    (c_is_kept : PySem.W.codeIn K cd_is_kept "is_kept" = true)
    (k_is_kept : PySem.W.keepIn K (.ref f_is_kept) = true)
    (a_Book_init : PySem.W.findIn K (.ref C_Book) "__init__" = some (some (.ref f_Book_init)))
    (i_Book_init : PySem.W.isFn K (.ref f_Book_init) = true)
    (l_Book_init : K.lookup f_Book_init = some ⟨oc_Book_init, od_Book_init, .func (PySem.W.fnOf "__init__" "Book.__init__" (defArgs s_Book_init) (defBody s_Book_init) (defScope s_Book_init) .none kV_Book_init dc_Book_init pm_Book_init an_Book_init cd_Book_init ct_Book_init), sl_Book_init⟩)
    (c_Book_init : PySem.W.codeIn K cd_Book_init "Book.__init__" = true)
    (k_Book_init : PySem.W.keepIn K (.ref f_Book_init) = true)
    (a_Book_tasks : PySem.W.findIn K (.ref C_Book) "tasks" = some (some (.ref p_Book_tasks)))
    (ps_Book_tasks : PySem.W.specialIn K (.ref p_Book_tasks) "__get__" = some (some (.builtin "property.__get__")))
    (pt_Book_tasks : PySem.W.takesIn K (.ref p_Book_tasks) = some true)
    (pr_Book_tasks : PySem.W.recIn K p_Book_tasks "property" = some (.ref f_Book_tasks :: r_Book_tasks))
    (l_Book_tasks : K.lookup f_Book_tasks = some ⟨oc_Book_tasks, od_Book_tasks, .func (PySem.W.fnOf "tasks" "Book.tasks" (defArgs s_Book_tasks) (defBody s_Book_tasks) (defScope s_Book_tasks) .none kV_Book_tasks dc_Book_tasks pm_Book_tasks an_Book_tasks cd_Book_tasks ct_Book_tasks), sl_Book_tasks⟩)
    (c_Book_tasks : PySem.W.codeIn K cd_Book_tasks "Book.tasks" = true)
    (k_Book_tasks : PySem.W.keepIn K (.ref f_Book_tasks) = true)
    (a_Book_rules : PySem.W.findIn K (.ref C_Book) "rules" = some (some (.ref p_Book_rules)))
    (ps_Book_rules : PySem.W.specialIn K (.ref p_Book_rules) "__get__" = some (some (.builtin "property.__get__")))
    (pt_Book_rules : PySem.W.takesIn K (.ref p_Book_rules) = some true)
    (pr_Book_rules : PySem.W.recIn K p_Book_rules "property" = some (.ref f_Book_rules :: r_Book_rules))
    (l_Book_rules : K.lookup f_Book_rules = some ⟨oc_Book_rules, od_Book_rules, .func (PySem.W.fnOf "rules" "Book.rules" (defArgs s_Book_rules) (defBody s_Book_rules) (defScope s_Book_rules) .none kV_Book_rules dc_Book_rules pm_Book_rules an_Book_rules cd_Book_rules ct_Book_rules), sl_Book_rules⟩)
    (c_Book_rules : PySem.W.codeIn K cd_Book_rules "Book.rules" = true)
    (k_Book_rules : PySem.W.keepIn K (.ref f_Book_rules) = true)
    (a_Book_keeps : PySem.W.findIn K (.ref C_Book) "keeps" = some (some (.ref f_Book_keeps)))
    (i_Book_keeps : PySem.W.isFn K (.ref f_Book_keeps) = true)
    (l_Book_keeps : K.lookup f_Book_keeps = some ⟨oc_Book_keeps, od_Book_keeps, .func (PySem.W.fnOf "keeps" "Book.keeps" (defArgs s_Book_keeps) (defBody s_Book_keeps) (defScope s_Book_keeps) .none kV_Book_keeps dc_Book_keeps pm_Book_keeps an_Book_keeps cd_Book_keeps ct_Book_keeps), sl_Book_keeps⟩)
    (c_Book_keeps : PySem.W.codeIn K cd_Book_keeps "Book.keeps" = true)
    (k_Book_keeps : PySem.W.keepIn K (.ref f_Book_keeps) = true)
    (a_Book_with_rules : PySem.W.findIn K (.ref C_Book) "with_rules" = some (some (.ref f_Book_with_rules)))
    (i_Book_with_rules : PySem.W.isFn K (.ref f_Book_with_rules) = true)
    (l_Book_with_rules : K.lookup f_Book_with_rules = some ⟨oc_Book_with_rules, od_Book_with_rules, .func (PySem.W.fnOf "with_rules" "Book.with_rules" (defArgs s_Book_with_rules) (defBody s_Book_with_rules) (defScope s_Book_with_rules) .none kV_Book_with_rules dc_Book_with_rules pm_Book_with_rules an_Book_with_rules cd_Book_with_rules ct_Book_with_rules), sl_Book_with_rules⟩)
    (c_Book_with_rules : PySem.W.codeIn K cd_Book_with_rules "Book.with_rules" = true)
    (k_Book_with_rules : PySem.W.keepIn K (.ref f_Book_with_rules) = true)
    (a_Book_beside : PySem.W.findIn K (.ref C_Book) "beside" = some (some (.ref f_Book_beside)))
    (i_Book_beside : PySem.W.isFn K (.ref f_Book_beside) = true)
    (l_Book_beside : K.lookup f_Book_beside = some ⟨oc_Book_beside, od_Book_beside, .func (PySem.W.fnOf "beside" "Book.beside" (defArgs s_Book_beside) (defBody s_Book_beside) (defScope s_Book_beside) .none kV_Book_beside dc_Book_beside pm_Book_beside an_Book_beside cd_Book_beside ct_Book_beside), sl_Book_beside⟩)
    (c_Book_beside : PySem.W.codeIn K cd_Book_beside "Book.beside" = true)
    (k_Book_beside : PySem.W.keepIn K (.ref f_Book_beside) = true)
    (a_Book_then : PySem.W.findIn K (.ref C_Book) "then" = some (some (.ref f_Book_then)))
    (i_Book_then : PySem.W.isFn K (.ref f_Book_then) = true)
    (l_Book_then : K.lookup f_Book_then = some ⟨oc_Book_then, od_Book_then, .func (PySem.W.fnOf "then" "Book.then" (defArgs s_Book_then) (defBody s_Book_then) (defScope s_Book_then) .none kV_Book_then dc_Book_then pm_Book_then an_Book_then cd_Book_then ct_Book_then), sl_Book_then⟩)
    (c_Book_then : PySem.W.codeIn K cd_Book_then "Book.then" = true)
    (k_Book_then : PySem.W.keepIn K (.ref f_Book_then) = true)
    (a_Book_and : PySem.W.findIn K (.ref C_Book) "__and__" = some (some (.ref f_Book_and)))
    (i_Book_and : PySem.W.isFn K (.ref f_Book_and) = true)
    (l_Book_and : K.lookup f_Book_and = some ⟨oc_Book_and, od_Book_and, .func (PySem.W.fnOf "__and__" "Book.__and__" (defArgs s_Book_and) (defBody s_Book_and) (defScope s_Book_and) .none kV_Book_and dc_Book_and pm_Book_and an_Book_and cd_Book_and ct_Book_and), sl_Book_and⟩)
    (c_Book_and : PySem.W.codeIn K cd_Book_and "Book.__and__" = true)
    (k_Book_and : PySem.W.keepIn K (.ref f_Book_and) = true)
    (a_Book_len : PySem.W.findIn K (.ref C_Book) "__len__" = some (some (.ref f_Book_len)))
    (i_Book_len : PySem.W.isFn K (.ref f_Book_len) = true)
    (l_Book_len : K.lookup f_Book_len = some ⟨oc_Book_len, od_Book_len, .func (PySem.W.fnOf "__len__" "Book.__len__" (defArgs s_Book_len) (defBody s_Book_len) (defScope s_Book_len) .none kV_Book_len dc_Book_len pm_Book_len an_Book_len cd_Book_len ct_Book_len), sl_Book_len⟩)
    (c_Book_len : PySem.W.codeIn K cd_Book_len "Book.__len__" = true)
    (k_Book_len : PySem.W.keepIn K (.ref f_Book_len) = true)
    (a_Book_eq : PySem.W.findIn K (.ref C_Book) "__eq__" = some (some (.ref f_Book_eq)))
    (i_Book_eq : PySem.W.isFn K (.ref f_Book_eq) = true)
    (l_Book_eq : K.lookup f_Book_eq = some ⟨oc_Book_eq, od_Book_eq, .func (PySem.W.fnOf "__eq__" "Book.__eq__" (defArgs s_Book_eq) (defBody s_Book_eq) (defScope s_Book_eq) .none kV_Book_eq dc_Book_eq pm_Book_eq an_Book_eq cd_Book_eq ct_Book_eq), sl_Book_eq⟩)
    (c_Book_eq : PySem.W.codeIn K cd_Book_eq "Book.__eq__" = true)
    (k_Book_eq : PySem.W.keepIn K (.ref f_Book_eq) = true)
    (a_law_deck : PySem.W.nsIn K mainGlobals "_law_deck" = some (some (.ref f_law_deck)))
    (l_law_deck : K.lookup f_law_deck = some ⟨oc_law_deck, od_law_deck, .func (PySem.W.fnOf "_law_deck" "_law_deck" (defArgs s_law_deck) (defBody s_law_deck) (defScope s_law_deck) .none kV_law_deck dc_law_deck pm_law_deck an_law_deck cd_law_deck ct_law_deck), sl_law_deck⟩)
    (c_law_deck : PySem.W.codeIn K cd_law_deck "_law_deck" = true)
    (k_law_deck : PySem.W.keepIn K (.ref f_law_deck) = true)
    (a_law_draw : PySem.W.nsIn K mainGlobals "_law_draw" = some (some (.ref f_law_draw)))
    (l_law_draw : K.lookup f_law_draw = some ⟨oc_law_draw, od_law_draw, .func (PySem.W.fnOf "_law_draw" "_law_draw" (defArgs s_law_draw) (defBody s_law_draw) (defScope s_law_draw) .none kV_law_draw dc_law_draw pm_law_draw an_law_draw cd_law_draw ct_law_draw), sl_law_draw⟩)
    (c_law_draw : PySem.W.codeIn K cd_law_draw "_law_draw" = true)
    (k_law_draw : PySem.W.keepIn K (.ref f_law_draw) = true)
    (a_law_names : PySem.W.nsIn K mainGlobals "_law_names" = some (some (.ref f_law_names)))
    (l_law_names : K.lookup f_law_names = some ⟨oc_law_names, od_law_names, .func (PySem.W.fnOf "_law_names" "_law_names" (defArgs s_law_names) (defBody s_law_names) (defScope s_law_names) .none kV_law_names dc_law_names pm_law_names an_law_names cd_law_names ct_law_names), sl_law_names⟩)
    (c_law_names : PySem.W.codeIn K cd_law_names "_law_names" = true)
    (k_law_names : PySem.W.keepIn K (.ref f_law_names) = true)
    (a_law_rule : PySem.W.nsIn K mainGlobals "_law_rule" = some (some (.ref f_law_rule)))
    (l_law_rule : K.lookup f_law_rule = some ⟨oc_law_rule, od_law_rule, .func (PySem.W.fnOf "_law_rule" "_law_rule" (defArgs s_law_rule) (defBody s_law_rule) (defScope s_law_rule) .none kV_law_rule dc_law_rule pm_law_rule an_law_rule cd_law_rule ct_law_rule), sl_law_rule⟩)
    (c_law_rule : PySem.W.codeIn K cd_law_rule "_law_rule" = true)
    (k_law_rule : PySem.W.keepIn K (.ref f_law_rule) = true)
    (a_law_order : PySem.W.nsIn K mainGlobals "_law_order" = some (some (.ref f_law_order)))
    (l_law_order : K.lookup f_law_order = some ⟨oc_law_order, od_law_order, .func (PySem.W.fnOf "_law_order" "_law_order" (defArgs s_law_order) (defBody s_law_order) (defScope s_law_order) .none kV_law_order dc_law_order pm_law_order an_law_order cd_law_order ct_law_order), sl_law_order⟩)
    (c_law_order : PySem.W.codeIn K cd_law_order "_law_order" = true)
    (k_law_order : PySem.W.keepIn K (.ref f_law_order) = true)
    (a_law_shows : PySem.W.nsIn K mainGlobals "_law_shows" = some (some (.ref f_law_shows)))
    (l_law_shows : K.lookup f_law_shows = some ⟨oc_law_shows, od_law_shows, .func (PySem.W.fnOf "_law_shows" "_law_shows" (defArgs s_law_shows) (defBody s_law_shows) (defScope s_law_shows) .none kV_law_shows dc_law_shows pm_law_shows an_law_shows cd_law_shows ct_law_shows), sl_law_shows⟩)
    (c_law_shows : PySem.W.codeIn K cd_law_shows "_law_shows" = true)
    (k_law_shows : PySem.W.keepIn K (.ref f_law_shows) = true)
    (a_law_some : PySem.W.nsIn K mainGlobals "_law_some" = some (some (.ref f_law_some)))
    (l_law_some : K.lookup f_law_some = some ⟨oc_law_some, od_law_some, .func (PySem.W.fnOf "_law_some" "_law_some" (defArgs s_law_some) (defBody s_law_some) (defScope s_law_some) .none kV_law_some dc_law_some pm_law_some an_law_some cd_law_some ct_law_some), sl_law_some⟩)
    (c_law_some : PySem.W.codeIn K cd_law_some "_law_some" = true)
    (k_law_some : PySem.W.keepIn K (.ref f_law_some) = true)
    (a_law_great : PySem.W.nsIn K mainGlobals "_law_great" = some (some (.ref f_law_great)))
    (l_law_great : K.lookup f_law_great = some ⟨oc_law_great, od_law_great, .func (PySem.W.fnOf "_law_great" "_law_great" (defArgs s_law_great) (defBody s_law_great) (defScope s_law_great) .none kV_law_great dc_law_great pm_law_great an_law_great cd_law_great ct_law_great), sl_law_great⟩)
    (c_law_great : PySem.W.codeIn K cd_law_great "_law_great" = true)
    (k_law_great : PySem.W.keepIn K (.ref f_law_great) = true)
    (a_law_days : PySem.W.nsIn K mainGlobals "_law_days" = some (some (.ref f_law_days)))
    (l_law_days : K.lookup f_law_days = some ⟨oc_law_days, od_law_days, .func (PySem.W.fnOf "_law_days" "_law_days" (defArgs s_law_days) (defBody s_law_days) (defScope s_law_days) .none kV_law_days dc_law_days pm_law_days an_law_days cd_law_days ct_law_days), sl_law_days⟩)
    (c_law_days : PySem.W.codeIn K cd_law_days "_law_days" = true)
    (k_law_days : PySem.W.keepIn K (.ref f_law_days) = true)
    (a_law_number : PySem.W.nsIn K mainGlobals "_law_number" = some (some (.ref f_law_number)))
    (l_law_number : K.lookup f_law_number = some ⟨oc_law_number, od_law_number, .func (PySem.W.fnOf "_law_number" "_law_number" (defArgs s_law_number) (defBody s_law_number) (defScope s_law_number) .none kV_law_number dc_law_number pm_law_number an_law_number cd_law_number ct_law_number), sl_law_number⟩)
    (c_law_number : PySem.W.codeIn K cd_law_number "_law_number" = true)
    (k_law_number : PySem.W.keepIn K (.ref f_law_number) = true)
    (a_law_kept : PySem.W.nsIn K mainGlobals "_law_kept" = some (some (.ref f_law_kept)))
    (l_law_kept : K.lookup f_law_kept = some ⟨oc_law_kept, od_law_kept, .func (PySem.W.fnOf "_law_kept" "_law_kept" (defArgs s_law_kept) (defBody s_law_kept) (defScope s_law_kept) .none kV_law_kept dc_law_kept pm_law_kept an_law_kept cd_law_kept ct_law_kept), sl_law_kept⟩)
    (c_law_kept : PySem.W.codeIn K cd_law_kept "_law_kept" = true)
    (k_law_kept : PySem.W.keepIn K (.ref f_law_kept) = true)
    (a_law_is_plan : PySem.W.nsIn K mainGlobals "_law_is_plan" = some (some (.ref f_law_is_plan)))
    (l_law_is_plan : K.lookup f_law_is_plan = some ⟨oc_law_is_plan, od_law_is_plan, .func (PySem.W.fnOf "_law_is_plan" "_law_is_plan" (defArgs s_law_is_plan) (defBody s_law_is_plan) (defScope s_law_is_plan) .none kV_law_is_plan dc_law_is_plan pm_law_is_plan an_law_is_plan cd_law_is_plan ct_law_is_plan), sl_law_is_plan⟩)
    (c_law_is_plan : PySem.W.codeIn K cd_law_is_plan "_law_is_plan" = true)
    (k_law_is_plan : PySem.W.keepIn K (.ref f_law_is_plan) = true)
    (a_law_call : PySem.W.nsIn K mainGlobals "_law_call" = some (some (.ref f_law_call)))
    (l_law_call : K.lookup f_law_call = some ⟨oc_law_call, od_law_call, .func (PySem.W.fnOf "_law_call" "_law_call" (defArgs s_law_call) (defBody s_law_call) (defScope s_law_call) .none kV_law_call dc_law_call pm_law_call an_law_call cd_law_call ct_law_call), sl_law_call⟩)
    (c_law_call : PySem.W.codeIn K cd_law_call "_law_call" = true)
    (k_law_call : PySem.W.keepIn K (.ref f_law_call) = true)
    (a_law_raised : PySem.W.nsIn K mainGlobals "_law_raised" = some (some (.ref f_law_raised)))
    (l_law_raised : K.lookup f_law_raised = some ⟨oc_law_raised, od_law_raised, .func (PySem.W.fnOf "_law_raised" "_law_raised" (defArgs s_law_raised) (defBody s_law_raised) (defScope s_law_raised) .none kV_law_raised dc_law_raised pm_law_raised an_law_raised cd_law_raised ct_law_raised), sl_law_raised⟩)
    (c_law_raised : PySem.W.codeIn K cd_law_raised "_law_raised" = true)
    (k_law_raised : PySem.W.keepIn K (.ref f_law_raised) = true)
    (a_law_based : PySem.W.nsIn K mainGlobals "_law_based" = some (some (.ref f_law_based)))
    (l_law_based : K.lookup f_law_based = some ⟨oc_law_based, od_law_based, .func (PySem.W.fnOf "_law_based" "_law_based" (defArgs s_law_based) (defBody s_law_based) (defScope s_law_based) .none kV_law_based dc_law_based pm_law_based an_law_based cd_law_based ct_law_based), sl_law_based⟩)
    (c_law_based : PySem.W.codeIn K cd_law_based "_law_based" = true)
    (k_law_based : PySem.W.keepIn K (.ref f_law_based) = true)
    (a_law_then_right : PySem.W.nsIn K mainGlobals "_law_then_right" = some (some (.ref f_law_then_right)))
    (l_law_then_right : K.lookup f_law_then_right = some ⟨oc_law_then_right, od_law_then_right, .func (PySem.W.fnOf "_law_then_right" "_law_then_right" (defArgs s_law_then_right) (defBody s_law_then_right) (defScope s_law_then_right) .none kV_law_then_right dc_law_then_right pm_law_then_right an_law_then_right cd_law_then_right ct_law_then_right), sl_law_then_right⟩)
    (c_law_then_right : PySem.W.codeIn K cd_law_then_right "_law_then_right" = true)
    (k_law_then_right : PySem.W.keepIn K (.ref f_law_then_right) = true)
    (a_law_two : PySem.W.nsIn K mainGlobals "_law_two" = some (some (.ref f_law_two)))
    (l_law_two : K.lookup f_law_two = some ⟨oc_law_two, od_law_two, .func (PySem.W.fnOf "_law_two" "_law_two" (defArgs s_law_two) (defBody s_law_two) (defScope s_law_two) .none kV_law_two dc_law_two pm_law_two an_law_two cd_law_two ct_law_two), sl_law_two⟩)
    (c_law_two : PySem.W.codeIn K cd_law_two "_law_two" = true)
    (k_law_two : PySem.W.keepIn K (.ref f_law_two) = true)
    (a_law : PySem.W.nsIn K mainGlobals "law" = some (some (.ref f_law)))
    (l_law : K.lookup f_law = some ⟨oc_law, od_law, .func (PySem.W.fnOf "law" "law" (defArgs s_law) (defBody s_law) (defScope s_law) .none kV_law dc_law pm_law an_law cd_law ct_law), sl_law⟩)
    (c_law : PySem.W.codeIn K cd_law "law" = true)
    (k_law : PySem.W.keepIn K (.ref f_law) = true)
    (z_all : PySem.W.nsIn K mainGlobals "all" = some none)
    (z_bool : PySem.W.nsIn K mainGlobals "bool" = some none)
    (z_dict : PySem.W.nsIn K mainGlobals "dict" = some none)
    (z_int : PySem.W.nsIn K mainGlobals "int" = some none)
    (z_isinstance : PySem.W.nsIn K mainGlobals "isinstance" = some none)
    (z_len : PySem.W.nsIn K mainGlobals "len" = some none)
    (z_list : PySem.W.nsIn K mainGlobals "list" = some none)
    (z_max : PySem.W.nsIn K mainGlobals "max" = some none)
    (z_min : PySem.W.nsIn K mainGlobals "min" = some none)
    (z_range : PySem.W.nsIn K mainGlobals "range" = some none)
    (z_sorted : PySem.W.nsIn K mainGlobals "sorted" = some none)
    (z_str : PySem.W.nsIn K mainGlobals "str" = some none)
    (z_tuple : PySem.W.nsIn K mainGlobals "tuple" = some none)
    (z_zip : PySem.W.nsIn K mainGlobals "zip" = some none)
    (xa_Book : PySem.W.findIn K (.ref C_Book) "__class__" = some (some (.builtin "object.__class__")))
    (xn_Book : PySem.W.specialIn K (.builtin "object.__class__") "__get__" = some (some (.builtin "getset_descriptor.__get__")))
    (xt_Book : PySem.W.takesIn K (.builtin "object.__class__") = some true)
    (xm_Book : PySem.W.mroIn K C_Book (.type "object") = some true)
    (sf_Book : PySem.W.selfFirst K C_Book = true)
    : ∃ fd : FuncData, (∀ (s : Shared) (v : Value), BindsTo s fd ⟨[v], []⟩ [("script", v)]) ∧ ∀ base : Heap, K.In base → base.Ns mainGlobals mg → FnOk l.prog w K mg base CX0 10 fa fd ["script"] (spLaw K) := by
  have e := hfa.symm.trans (PySem.W.mg_of X G a_law)
  cases e
  have F_PlanError_init := fun_mk (st := s_PlanError_init) l_PlanError_init c_PlanError_init k_PlanError_init
  have b_PlanError_init := F_PlanError_init.binds (ps := ["self", "value"]) fun _ _ _ _ _ _ us hl => match us, hl with | [_, _], _ => rfl
  have F_is_name := fun_mk (st := s_is_name) l_is_name c_is_name k_is_name
  have b_is_name := F_is_name.binds (ps := ["text"]) fun _ _ _ _ _ _ us hl => match us, hl with | [_], _ => rfl
  have F_check_tasks := fun_mk (st := s_check_tasks) l_check_tasks c_check_tasks k_check_tasks
  have b_check_tasks := F_check_tasks.binds (ps := ["tasks"]) fun _ _ _ _ _ _ us hl => match us, hl with | [_], _ => rfl
  have F_check_rule := fun_mk (st := s_check_rule) l_check_rule c_check_rule k_check_rule
  have b_check_rule := F_check_rule.binds (ps := ["rule", "tasks"]) fun _ _ _ _ _ _ us hl => match us, hl with | [_, _], _ => rfl
  have F_is_kept := fun_mk (st := s_is_kept) l_is_kept c_is_kept k_is_kept
  have b_is_kept := F_is_kept.binds (ps := ["rule", "n", "days"]) fun _ _ _ _ _ _ us hl => match us, hl with | [_, _, _], _ => rfl
  have F_Book_init := fun_mk (st := s_Book_init) l_Book_init c_Book_init k_Book_init
  have b_Book_init := F_Book_init.binds (ps := ["self", "tasks", "rules"]) fun _ _ _ _ _ _ us hl => match us, hl with | [_, _, _], _ => rfl
  have F_Book_tasks := fun_mk (st := s_Book_tasks) l_Book_tasks c_Book_tasks k_Book_tasks
  have b_Book_tasks := F_Book_tasks.binds (ps := ["self"]) fun _ _ _ _ _ _ us hl => match us, hl with | [_], _ => rfl
  have F_Book_rules := fun_mk (st := s_Book_rules) l_Book_rules c_Book_rules k_Book_rules
  have b_Book_rules := F_Book_rules.binds (ps := ["self"]) fun _ _ _ _ _ _ us hl => match us, hl with | [_], _ => rfl
  have F_Book_keeps := fun_mk (st := s_Book_keeps) l_Book_keeps c_Book_keeps k_Book_keeps
  have b_Book_keeps := F_Book_keeps.binds (ps := ["self", "n", "plan"]) fun _ _ _ _ _ _ us hl => match us, hl with | [_, _, _], _ => rfl
  have F_Book_with_rules := fun_mk (st := s_Book_with_rules) l_Book_with_rules c_Book_with_rules k_Book_with_rules
  have b_Book_with_rules := F_Book_with_rules.binds (ps := ["self", "rules"]) fun _ _ _ _ _ _ us hl => match us, hl with | [_, _], _ => rfl
  have F_Book_beside := fun_mk (st := s_Book_beside) l_Book_beside c_Book_beside k_Book_beside
  have b_Book_beside := F_Book_beside.binds (ps := ["self", "other"]) fun _ _ _ _ _ _ us hl => match us, hl with | [_, _], _ => rfl
  have F_Book_then := fun_mk (st := s_Book_then) l_Book_then c_Book_then k_Book_then
  have b_Book_then := F_Book_then.binds (ps := ["self", "other"]) fun _ _ _ _ _ _ us hl => match us, hl with | [_, _], _ => rfl
  have F_Book_and := fun_mk (st := s_Book_and) l_Book_and c_Book_and k_Book_and
  have b_Book_and := F_Book_and.binds (ps := ["self", "other"]) fun _ _ _ _ _ _ us hl => match us, hl with | [_, _], _ => rfl
  have F_Book_len := fun_mk (st := s_Book_len) l_Book_len c_Book_len k_Book_len
  have b_Book_len := F_Book_len.binds (ps := ["self"]) fun _ _ _ _ _ _ us hl => match us, hl with | [_], _ => rfl
  have F_Book_eq := fun_mk (st := s_Book_eq) l_Book_eq c_Book_eq k_Book_eq
  have b_Book_eq := F_Book_eq.binds (ps := ["self", "other"]) fun _ _ _ _ _ _ us hl => match us, hl with | [_, _], _ => rfl
  have F_law_deck := fun_mk (st := s_law_deck) l_law_deck c_law_deck k_law_deck
  have b_law_deck := F_law_deck.binds (ps := ["script"]) fun _ _ _ _ _ _ us hl => match us, hl with | [_], _ => rfl
  have F_law_draw := fun_mk (st := s_law_draw) l_law_draw c_law_draw k_law_draw
  have b_law_draw := F_law_draw.binds (ps := ["deck", "many"]) fun _ _ _ _ _ _ us hl => match us, hl with | [_, _], _ => rfl
  have F_law_names := fun_mk (st := s_law_names) l_law_names c_law_names k_law_names
  have b_law_names := F_law_names.binds (ps := ["deck", "many"]) fun _ _ _ _ _ _ us hl => match us, hl with | [_, _], _ => rfl
  have F_law_rule := fun_mk (st := s_law_rule) l_law_rule c_law_rule k_law_rule
  have b_law_rule := F_law_rule.binds (ps := ["deck", "task_list"]) fun _ _ _ _ _ _ us hl => match us, hl with | [_, _], _ => rfl
  have F_law_order := fun_mk (st := s_law_order) l_law_order c_law_order k_law_order
  have b_law_order := F_law_order.binds (ps := ["deck", "many"]) fun _ _ _ _ _ _ us hl => match us, hl with | [_, _], _ => rfl
  have F_law_shows := fun_mk (st := s_law_shows) l_law_shows c_law_shows k_law_shows
  have b_law_shows := F_law_shows.binds (ps := ["deck", "book", "task_list", "rule_list"]) fun _ _ _ _ _ _ us hl => match us, hl with | [_, _, _, _], _ => rfl
  have F_law_some := fun_mk (st := s_law_some) l_law_some c_law_some k_law_some
  have b_law_some := F_law_some.binds (ps := ["deck", "pool"]) fun _ _ _ _ _ _ us hl => match us, hl with | [_, _], _ => rfl
  have F_law_great := fun_mk (st := s_law_great) l_law_great c_law_great k_law_great
  have b_law_great := F_law_great.binds (ps := ["deck", "many"]) fun _ _ _ _ _ _ us hl => match us, hl with | [_, _], _ => rfl
  have F_law_days := fun_mk (st := s_law_days) l_law_days c_law_days k_law_days
  have b_law_days := F_law_days.binds (ps := ["deck", "last_day", "many"]) fun _ _ _ _ _ _ us hl => match us, hl with | [_, _, _], _ => rfl
  have F_law_number := fun_mk (st := s_law_number) l_law_number c_law_number k_law_number
  have b_law_number := F_law_number.binds (ps := ["deck"]) fun _ _ _ _ _ _ us hl => match us, hl with | [_], _ => rfl
  have F_law_kept := fun_mk (st := s_law_kept) l_law_kept c_law_kept k_law_kept
  have b_law_kept := F_law_kept.binds (ps := ["rule", "task_list", "last_day", "days"]) fun _ _ _ _ _ _ us hl => match us, hl with | [_, _, _, _], _ => rfl
  have F_law_is_plan := fun_mk (st := s_law_is_plan) l_law_is_plan c_law_is_plan k_law_is_plan
  have b_law_is_plan := F_law_is_plan.binds (ps := ["task_list", "rule_list", "last_day", "days"]) fun _ _ _ _ _ _ us hl => match us, hl with | [_, _, _, _], _ => rfl
  have F_law_call := fun_mk (st := s_law_call) l_law_call c_law_call k_law_call
  have b_law_call := F_law_call.binds (ps := ["one", "two", "way"]) fun _ _ _ _ _ _ us hl => match us, hl with | [_, _, _], _ => rfl
  have F_law_raised := fun_mk (st := s_law_raised) l_law_raised c_law_raised k_law_raised
  have b_law_raised := F_law_raised.binds (ps := ["one", "two", "way"]) fun _ _ _ _ _ _ us hl => match us, hl with | [_, _, _], _ => rfl
  have F_law_based := fun_mk (st := s_law_based) l_law_based c_law_based k_law_based
  have b_law_based := F_law_based.binds (ps := ["one", "two", "way"]) fun _ _ _ _ _ _ us hl => match us, hl with | [_, _, _], _ => rfl
  have F_law_then_right := fun_mk (st := s_law_then_right) l_law_then_right c_law_then_right k_law_then_right
  have b_law_then_right := F_law_then_right.binds (ps := ["deck", "made", "first", "second"]) fun _ _ _ _ _ _ us hl => match us, hl with | [_, _, _, _], _ => rfl
  have F_law_two := fun_mk (st := s_law_two) l_law_two c_law_two k_law_two
  have b_law_two := F_law_two.binds (ps := ["deck", "pool"]) fun _ _ _ _ _ _ us hl => match us, hl with | [_, _], _ => rfl
  have F_law := fun_mk (st := s_law) l_law c_law k_law
  have b_law := F_law.binds (ps := ["script"]) fun _ _ _ _ _ _ us hl => match us, hl with | [_], _ => rfl
  let T : Tx K w mg := {  f_PlanError_init := f_PlanError_init, C_DoubleName := C_DoubleName, mg_DoubleName := PySem.W.mg_of X G aC_DoubleName, ox_DoubleName := ⟨⟨_, _, _, _, _, _, _, _, _, _, _, _, _, _, _, xL_DoubleName, rfl⟩, sa_DoubleName, eC_DoubleName, tC_DoubleName, kC_DoubleName⟩, ic_DoubleName := ic_DoubleName, nv_DoubleName := nv_DoubleName, xf_DoubleName := ⟨ga_DoubleName, gt_DoubleName, eC_DoubleName, hC_DoubleName⟩, xc_DoubleName := ⟨ga_DoubleName, gt_DoubleName, eC_DoubleName, hC_DoubleName, xca_DoubleName, xcn_DoubleName, xct_DoubleName, xcm_DoubleName⟩, ti := ti, C_PlanError := C_PlanError, mg_PlanError := PySem.W.mg_of X G aC_PlanError, em_DoubleName_DoubleName := PySem.W.exm_ref eC_DoubleName hC_DoubleName tC_DoubleName sb_DoubleName_DoubleName, em_DoubleName_PlanError := PySem.W.exm_ref eC_PlanError hC_PlanError tC_PlanError sb_DoubleName_PlanError, C_Book := C_Book, cl_Book := ⟨pg_Book, hd_Book, po_Book, sa_Book⟩, mg_Book := PySem.W.mg_of X G aC_Book, n_Book_tasks := n_Book_tasks, n_Book_rules := n_Book_rules, d__TASKS_IN := d__TASKS_IN, e__TASKS_IN := e__TASKS_IN, i__TASKS_IN := i__TASKS_IN, g__TASKS_IN := PySem.W.mg_of X G ga__TASKS_IN, kd__TASKS_IN := ⟨gl__TASKS_IN, gk__TASKS_IN, gs__TASKS_IN⟩, k__TASKS_IN_before := ⟨_, gv__TASKS_IN_before⟩, k__TASKS_IN_upto := ⟨_, gv__TASKS_IN_upto⟩, k__TASKS_IN_same := ⟨_, gv__TASKS_IN_same⟩, k__TASKS_IN_apart := ⟨_, gv__TASKS_IN_apart⟩, k__TASKS_IN_far := ⟨_, gv__TASKS_IN_far⟩, k__TASKS_IN_next := ⟨_, gv__TASKS_IN_next⟩, k__TASKS_IN_first := ⟨_, gv__TASKS_IN_first⟩, k__TASKS_IN_last := ⟨_, gv__TASKS_IN_last⟩, t__LONGEST_NAME := _, v__LONGEST_NAME := PySem.W.mg_of X G gv__LONGEST_NAME, d_PlanError_init := _, F_PlanError_init := F_PlanError_init, b_PlanError_init := b_PlanError_init, f_is_name := f_is_name, d_is_name := _, F_is_name := F_is_name, b_is_name := b_is_name, g_is_name := PySem.W.mg_of X G a_is_name, f_check_tasks := f_check_tasks, d_check_tasks := _, F_check_tasks := F_check_tasks, b_check_tasks := b_check_tasks, g_check_tasks := PySem.W.mg_of X G a_check_tasks, f_check_rule := f_check_rule, d_check_rule := _, F_check_rule := F_check_rule, b_check_rule := b_check_rule, g_check_rule := PySem.W.mg_of X G a_check_rule, f_is_kept := f_is_kept, d_is_kept := _, F_is_kept := F_is_kept, b_is_kept := b_is_kept, g_is_kept := PySem.W.mg_of X G a_is_kept, f_Book_init := f_Book_init, d_Book_init := _, F_Book_init := F_Book_init, b_Book_init := b_Book_init, mk_Book := ⟨ms_Book, a_Book_init, i_Book_init, kc_Book⟩, f_Book_tasks := f_Book_tasks, d_Book_tasks := _, F_Book_tasks := F_Book_tasks, b_Book_tasks := b_Book_tasks, p_Book_tasks := p_Book_tasks, pr_Book_tasks := ⟨a_Book_tasks, ps_Book_tasks, pt_Book_tasks, ⟨_, pr_Book_tasks⟩⟩, f_Book_rules := f_Book_rules, d_Book_rules := _, F_Book_rules := F_Book_rules, b_Book_rules := b_Book_rules, p_Book_rules := p_Book_rules, pr_Book_rules := ⟨a_Book_rules, ps_Book_rules, pt_Book_rules, ⟨_, pr_Book_rules⟩⟩, f_Book_keeps := f_Book_keeps, d_Book_keeps := _, F_Book_keeps := F_Book_keeps, b_Book_keeps := b_Book_keeps, me_Book_keeps := ⟨a_Book_keeps, i_Book_keeps, k_Book_keeps⟩, f_Book_with_rules := f_Book_with_rules, d_Book_with_rules := _, F_Book_with_rules := F_Book_with_rules, b_Book_with_rules := b_Book_with_rules, me_Book_with_rules := ⟨a_Book_with_rules, i_Book_with_rules, k_Book_with_rules⟩, f_Book_beside := f_Book_beside, d_Book_beside := _, F_Book_beside := F_Book_beside, b_Book_beside := b_Book_beside, me_Book_beside := ⟨a_Book_beside, i_Book_beside, k_Book_beside⟩, f_Book_then := f_Book_then, d_Book_then := _, F_Book_then := F_Book_then, b_Book_then := b_Book_then, me_Book_then := ⟨a_Book_then, i_Book_then, k_Book_then⟩, f_Book_and := f_Book_and, d_Book_and := _, F_Book_and := F_Book_and, b_Book_and := b_Book_and, me_Book_and := ⟨a_Book_and, i_Book_and, k_Book_and⟩, f_Book_len := f_Book_len, d_Book_len := _, F_Book_len := F_Book_len, b_Book_len := b_Book_len, me_Book_len := ⟨a_Book_len, i_Book_len, k_Book_len⟩, f_Book_eq := f_Book_eq, d_Book_eq := _, F_Book_eq := F_Book_eq, b_Book_eq := b_Book_eq, me_Book_eq := ⟨a_Book_eq, i_Book_eq, k_Book_eq⟩, f_law_deck := f_law_deck, d_law_deck := _, F_law_deck := F_law_deck, b_law_deck := b_law_deck, g_law_deck := PySem.W.mg_of X G a_law_deck, f_law_draw := f_law_draw, d_law_draw := _, F_law_draw := F_law_draw, b_law_draw := b_law_draw, g_law_draw := PySem.W.mg_of X G a_law_draw, f_law_names := f_law_names, d_law_names := _, F_law_names := F_law_names, b_law_names := b_law_names, g_law_names := PySem.W.mg_of X G a_law_names, f_law_rule := f_law_rule, d_law_rule := _, F_law_rule := F_law_rule, b_law_rule := b_law_rule, g_law_rule := PySem.W.mg_of X G a_law_rule, f_law_order := f_law_order, d_law_order := _, F_law_order := F_law_order, b_law_order := b_law_order, g_law_order := PySem.W.mg_of X G a_law_order, f_law_shows := f_law_shows, d_law_shows := _, F_law_shows := F_law_shows, b_law_shows := b_law_shows, g_law_shows := PySem.W.mg_of X G a_law_shows, f_law_some := f_law_some, d_law_some := _, F_law_some := F_law_some, b_law_some := b_law_some, g_law_some := PySem.W.mg_of X G a_law_some, f_law_great := f_law_great, d_law_great := _, F_law_great := F_law_great, b_law_great := b_law_great, g_law_great := PySem.W.mg_of X G a_law_great, f_law_days := f_law_days, d_law_days := _, F_law_days := F_law_days, b_law_days := b_law_days, g_law_days := PySem.W.mg_of X G a_law_days, f_law_number := f_law_number, d_law_number := _, F_law_number := F_law_number, b_law_number := b_law_number, g_law_number := PySem.W.mg_of X G a_law_number, f_law_kept := f_law_kept, d_law_kept := _, F_law_kept := F_law_kept, b_law_kept := b_law_kept, g_law_kept := PySem.W.mg_of X G a_law_kept, f_law_is_plan := f_law_is_plan, d_law_is_plan := _, F_law_is_plan := F_law_is_plan, b_law_is_plan := b_law_is_plan, g_law_is_plan := PySem.W.mg_of X G a_law_is_plan, f_law_call := f_law_call, d_law_call := _, F_law_call := F_law_call, b_law_call := b_law_call, g_law_call := PySem.W.mg_of X G a_law_call, f_law_raised := f_law_raised, d_law_raised := _, F_law_raised := F_law_raised, b_law_raised := b_law_raised, g_law_raised := PySem.W.mg_of X G a_law_raised, f_law_based := f_law_based, d_law_based := _, F_law_based := F_law_based, b_law_based := b_law_based, g_law_based := PySem.W.mg_of X G a_law_based, f_law_then_right := f_law_then_right, d_law_then_right := _, F_law_then_right := F_law_then_right, b_law_then_right := b_law_then_right, g_law_then_right := PySem.W.mg_of X G a_law_then_right, f_law_two := f_law_two, d_law_two := _, F_law_two := F_law_two, b_law_two := b_law_two, g_law_two := PySem.W.mg_of X G a_law_two, f_law := fa, d_law := _, F_law := F_law, b_law := b_law, g_law := PySem.W.mg_of X G a_law, m_all := PySem.W.mg_none_of X G z_all, m_bool := PySem.W.mg_none_of X G z_bool, m_dict := PySem.W.mg_none_of X G z_dict, m_int := PySem.W.mg_none_of X G z_int, m_isinstance := PySem.W.mg_none_of X G z_isinstance, m_len := PySem.W.mg_none_of X G z_len, m_list := PySem.W.mg_none_of X G z_list, m_max := PySem.W.mg_none_of X G z_max, m_min := PySem.W.mg_none_of X G z_min, m_range := PySem.W.mg_none_of X G z_range, m_sorted := PySem.W.mg_none_of X G z_sorted, m_str := PySem.W.mg_none_of X G z_str, m_tuple := PySem.W.mg_none_of X G z_tuple, m_zip := PySem.W.mg_none_of X G z_zip, xa_Book := xa_Book, xn_Book := xn_Book, xt_Book := xt_Book, xm_Book := xm_Book, sf_Book := sf_Book }
  exact ⟨PySem.W.fnOf "law" "law" (defArgs s_law) (defBody s_law) (defScope s_law) .none kV_law dc_law pm_law an_law cd_law ct_law, fun s v => .of_eq rfl, fun base _ _ => ok_law T⟩
end K08
open PySem PySem.W PyProof.Rows
set_option maxHeartbeats 0 in
theorem PySem.Challenge.cw_plandays_k08_beside_and_then_holds : PySem.Challenge.rw_plandays_k08_beside_and_then.Holds := by
  w_on; o_law; k_head; (case hw => w_witness2)
  k_fill
  refine L2.walk_of (l := PySem.Challenge.rw_plandays_k08_beside_and_then) (n := 63) (k := 10) (x := "script") (CX := fun _ => L2.CX0) (sp := fun w => K08.spLaw _) rfl (by decide) rfl ⟨rfl, by decide, by decide⟩ (fun w h Y => PySem.W.kIn_of Y) ?F (fun _ _ a ns hl _ hS => ⟨a, ns, rfl, hS, hl, fun _ => rfl⟩) (fun _ _ _ _ _ h => h)
  case F =>
    intro w mg fa h KX G hmg
    refine' K08.all_mk KX G hmg ?aC_Book ?pg_Book ?hd_Book ?po_Book ?sa_Book ?ms_Book ?kc_Book ?n_Book_tasks ?n_Book_rules ?aC_DoubleName ?eC_DoubleName ?tC_DoubleName ?hC_DoubleName ?xL_DoubleName ?sa_DoubleName ?ga_DoubleName ?gt_DoubleName ?nv_DoubleName ?ic_DoubleName ?kC_DoubleName ?aC_PlanError ?eC_PlanError ?tC_PlanError ?hC_PlanError ?xca_DoubleName ?xcn_DoubleName ?xct_DoubleName ?xcm_DoubleName ?ti ?sb_DoubleName_DoubleName ?sb_DoubleName_PlanError ?ga__TASKS_IN ?gl__TASKS_IN ?gk__TASKS_IN ?gs__TASKS_IN ?gv__TASKS_IN_before ?gv__TASKS_IN_upto ?gv__TASKS_IN_same ?gv__TASKS_IN_apart ?gv__TASKS_IN_far ?gv__TASKS_IN_next ?gv__TASKS_IN_first ?gv__TASKS_IN_last ?gv__LONGEST_NAME ?l_PlanError_init ?c_PlanError_init ?k_PlanError_init ?a_is_name ?l_is_name ?c_is_name ?k_is_name ?a_check_tasks ?l_check_tasks ?c_check_tasks ?k_check_tasks ?a_check_rule ?l_check_rule ?c_check_rule ?k_check_rule ?a_is_kept ?l_is_kept ?c_is_kept ?k_is_kept ?a_Book_init ?i_Book_init ?l_Book_init ?c_Book_init ?k_Book_init ?a_Book_tasks ?ps_Book_tasks ?pt_Book_tasks ?pr_Book_tasks ?l_Book_tasks ?c_Book_tasks ?k_Book_tasks ?a_Book_rules ?ps_Book_rules ?pt_Book_rules ?pr_Book_rules ?l_Book_rules ?c_Book_rules ?k_Book_rules ?a_Book_keeps ?i_Book_keeps ?l_Book_keeps ?c_Book_keeps ?k_Book_keeps ?a_Book_with_rules ?i_Book_with_rules ?l_Book_with_rules ?c_Book_with_rules ?k_Book_with_rules ?a_Book_beside ?i_Book_beside ?l_Book_beside ?c_Book_beside ?k_Book_beside ?a_Book_then ?i_Book_then ?l_Book_then ?c_Book_then ?k_Book_then ?a_Book_and ?i_Book_and ?l_Book_and ?c_Book_and ?k_Book_and ?a_Book_len ?i_Book_len ?l_Book_len ?c_Book_len ?k_Book_len ?a_Book_eq ?i_Book_eq ?l_Book_eq ?c_Book_eq ?k_Book_eq ?a_law_deck ?l_law_deck ?c_law_deck ?k_law_deck ?a_law_draw ?l_law_draw ?c_law_draw ?k_law_draw ?a_law_names ?l_law_names ?c_law_names ?k_law_names ?a_law_rule ?l_law_rule ?c_law_rule ?k_law_rule ?a_law_order ?l_law_order ?c_law_order ?k_law_order ?a_law_shows ?l_law_shows ?c_law_shows ?k_law_shows ?a_law_some ?l_law_some ?c_law_some ?k_law_some ?a_law_great ?l_law_great ?c_law_great ?k_law_great ?a_law_days ?l_law_days ?c_law_days ?k_law_days ?a_law_number ?l_law_number ?c_law_number ?k_law_number ?a_law_kept ?l_law_kept ?c_law_kept ?k_law_kept ?a_law_is_plan ?l_law_is_plan ?c_law_is_plan ?k_law_is_plan ?a_law_call ?l_law_call ?c_law_call ?k_law_call ?a_law_raised ?l_law_raised ?c_law_raised ?k_law_raised ?a_law_based ?l_law_based ?c_law_based ?k_law_based ?a_law_then_right ?l_law_then_right ?c_law_then_right ?k_law_then_right ?a_law_two ?l_law_two ?c_law_two ?k_law_two ?a_law ?l_law ?c_law ?k_law ?z_all ?z_bool ?z_dict ?z_int ?z_isinstance ?z_len ?z_list ?z_max ?z_min ?z_range ?z_sorted ?z_str ?z_tuple ?z_zip ?xa_Book ?xn_Book ?xt_Book ?xm_Book ?sf_Book
    (case aC_Book => k_is)
    (case pg_Book => k_is)
    (case hd_Book => k_is)
    (case po_Book => k_is)
    (case sa_Book => k_is)
    (case ms_Book => k_is)
    (case kc_Book => k_is)
    (case n_Book_tasks => k_is)
    (case n_Book_rules => k_is)
    (case aC_DoubleName => k_is)
    (case eC_DoubleName => k_is)
    (case tC_DoubleName => k_is)
    (case hC_DoubleName => k_is)
    (case xL_DoubleName => k_is)
    (case sa_DoubleName => k_is)
    (case ga_DoubleName => k_is)
    (case gt_DoubleName => k_is)
    (case nv_DoubleName => k_is)
    (case ic_DoubleName => k_is)
    (case kC_DoubleName => k_is)
    (case aC_PlanError => k_is)
    (case eC_PlanError => k_is)
    (case tC_PlanError => k_is)
    (case hC_PlanError => k_is)
    (case xca_DoubleName => k_is)
    (case xcn_DoubleName => k_is)
    (case xct_DoubleName => k_is)
    (case xcm_DoubleName => k_is)
    (case ti => k_is)
    (case sb_DoubleName_DoubleName => first | rfl | k_is)
    (case sb_DoubleName_PlanError => first | rfl | k_is)
    (case ga__TASKS_IN => k_is)
    (case gl__TASKS_IN => k_is)
    (case gk__TASKS_IN => k_keys)
    (case gs__TASKS_IN => decide)
    (case gv__TASKS_IN_before => k_is)
    (case gv__TASKS_IN_upto => k_is)
    (case gv__TASKS_IN_same => k_is)
    (case gv__TASKS_IN_apart => k_is)
    (case gv__TASKS_IN_far => k_is)
    (case gv__TASKS_IN_next => k_is)
    (case gv__TASKS_IN_first => k_is)
    (case gv__TASKS_IN_last => k_is)
    (case gv__LONGEST_NAME => k_is)
    (case l_PlanError_init => k_is)
    (case c_PlanError_init => k_is)
    (case k_PlanError_init => k_is)
    (case a_is_name => k_is)
    (case l_is_name => k_is)
    (case c_is_name => k_is)
    (case k_is_name => k_is)
    (case a_check_tasks => k_is)
    (case l_check_tasks => k_is)
    (case c_check_tasks => k_is)
    (case k_check_tasks => k_is)
    (case a_check_rule => k_is)
    (case l_check_rule => k_is)
    (case c_check_rule => k_is)
    (case k_check_rule => k_is)
    (case a_is_kept => k_is)
    (case l_is_kept => k_is)
    (case c_is_kept => k_is)
    (case k_is_kept => k_is)
    (case a_Book_init => k_is)
    (case i_Book_init => k_is)
    (case l_Book_init => k_is)
    (case c_Book_init => k_is)
    (case k_Book_init => k_is)
    (case a_Book_tasks => k_is)
    (case ps_Book_tasks => k_is)
    (case pt_Book_tasks => k_is)
    (case pr_Book_tasks => k_is)
    (case l_Book_tasks => k_is)
    (case c_Book_tasks => k_is)
    (case k_Book_tasks => k_is)
    (case a_Book_rules => k_is)
    (case ps_Book_rules => k_is)
    (case pt_Book_rules => k_is)
    (case pr_Book_rules => k_is)
    (case l_Book_rules => k_is)
    (case c_Book_rules => k_is)
    (case k_Book_rules => k_is)
    (case a_Book_keeps => k_is)
    (case i_Book_keeps => k_is)
    (case l_Book_keeps => k_is)
    (case c_Book_keeps => k_is)
    (case k_Book_keeps => k_is)
    (case a_Book_with_rules => k_is)
    (case i_Book_with_rules => k_is)
    (case l_Book_with_rules => k_is)
    (case c_Book_with_rules => k_is)
    (case k_Book_with_rules => k_is)
    (case a_Book_beside => k_is)
    (case i_Book_beside => k_is)
    (case l_Book_beside => k_is)
    (case c_Book_beside => k_is)
    (case k_Book_beside => k_is)
    (case a_Book_then => k_is)
    (case i_Book_then => k_is)
    (case l_Book_then => k_is)
    (case c_Book_then => k_is)
    (case k_Book_then => k_is)
    (case a_Book_and => k_is)
    (case i_Book_and => k_is)
    (case l_Book_and => k_is)
    (case c_Book_and => k_is)
    (case k_Book_and => k_is)
    (case a_Book_len => k_is)
    (case i_Book_len => k_is)
    (case l_Book_len => k_is)
    (case c_Book_len => k_is)
    (case k_Book_len => k_is)
    (case a_Book_eq => k_is)
    (case i_Book_eq => k_is)
    (case l_Book_eq => k_is)
    (case c_Book_eq => k_is)
    (case k_Book_eq => k_is)
    (case a_law_deck => k_is)
    (case l_law_deck => k_is)
    (case c_law_deck => k_is)
    (case k_law_deck => k_is)
    (case a_law_draw => k_is)
    (case l_law_draw => k_is)
    (case c_law_draw => k_is)
    (case k_law_draw => k_is)
    (case a_law_names => k_is)
    (case l_law_names => k_is)
    (case c_law_names => k_is)
    (case k_law_names => k_is)
    (case a_law_rule => k_is)
    (case l_law_rule => k_is)
    (case c_law_rule => k_is)
    (case k_law_rule => k_is)
    (case a_law_order => k_is)
    (case l_law_order => k_is)
    (case c_law_order => k_is)
    (case k_law_order => k_is)
    (case a_law_shows => k_is)
    (case l_law_shows => k_is)
    (case c_law_shows => k_is)
    (case k_law_shows => k_is)
    (case a_law_some => k_is)
    (case l_law_some => k_is)
    (case c_law_some => k_is)
    (case k_law_some => k_is)
    (case a_law_great => k_is)
    (case l_law_great => k_is)
    (case c_law_great => k_is)
    (case k_law_great => k_is)
    (case a_law_days => k_is)
    (case l_law_days => k_is)
    (case c_law_days => k_is)
    (case k_law_days => k_is)
    (case a_law_number => k_is)
    (case l_law_number => k_is)
    (case c_law_number => k_is)
    (case k_law_number => k_is)
    (case a_law_kept => k_is)
    (case l_law_kept => k_is)
    (case c_law_kept => k_is)
    (case k_law_kept => k_is)
    (case a_law_is_plan => k_is)
    (case l_law_is_plan => k_is)
    (case c_law_is_plan => k_is)
    (case k_law_is_plan => k_is)
    (case a_law_call => k_is)
    (case l_law_call => k_is)
    (case c_law_call => k_is)
    (case k_law_call => k_is)
    (case a_law_raised => k_is)
    (case l_law_raised => k_is)
    (case c_law_raised => k_is)
    (case k_law_raised => k_is)
    (case a_law_based => k_is)
    (case l_law_based => k_is)
    (case c_law_based => k_is)
    (case k_law_based => k_is)
    (case a_law_then_right => k_is)
    (case l_law_then_right => k_is)
    (case c_law_then_right => k_is)
    (case k_law_then_right => k_is)
    (case a_law_two => k_is)
    (case l_law_two => k_is)
    (case c_law_two => k_is)
    (case k_law_two => k_is)
    (case a_law => k_is)
    (case l_law => k_is)
    (case c_law => k_is)
    (case k_law => k_is)
    (case z_all => k_is)
    (case z_bool => k_is)
    (case z_dict => k_is)
    (case z_int => k_is)
    (case z_isinstance => k_is)
    (case z_len => k_is)
    (case z_list => k_is)
    (case z_max => k_is)
    (case z_min => k_is)
    (case z_range => k_is)
    (case z_sorted => k_is)
    (case z_str => k_is)
    (case z_tuple => k_is)
    (case z_zip => k_is)
    (case xa_Book => k_is)
    (case xn_Book => k_is)
    (case xt_Book => k_is)
    (case xm_Book => k_is)
    (case sf_Book => k_is)

