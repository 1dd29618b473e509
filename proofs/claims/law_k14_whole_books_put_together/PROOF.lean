import PyProof.Rows.All
import Wide.All
import OpenK.AllK
import Wide.FinOn
import HandS.ForMost
import HandS.Wide
import HandS.IsInst
import HandS.Codes
import HandS.Conv
import HandS.Style
import HandS.More
import HandS.Property
import HandS.Defaults
import HandS.MakeKwOnly
import KE.KDictZip
import HandS.Dict
import Flt.Len
import HandS.OwnEq
import HandS.SlotsOwn
import HandS.Star
import HandS.Walk
import HandS.Exc
import HandS.ExcOwn
import HandS.ExcInit
import HandS.ExcField
import HandS.ExcIs
import HandS.WordsExc
import HandS.NoneIn
import KE.KExcIs
import PySem.Challenge.RW_plandays_k14_whole_books_put_together
set_option Elab.async false
set_option linter.all false
set_option maxRecDepth 100000
namespace K14
open PySem PySem.Spec PyProof.Rows L2
/-! ### rules of my own over the layer's -/
theorem pe_bmK {X : Cx} {K : PySem.W.Frag} (hK : X.K = K) {o e : Expr} {es : List Expr} {to : TE} {t : TA} {name : Str} {apos cpos : Pos} {T id : String} {r : V → List V → Hp → VK → Prop}
    (pa : PlainAttrs T) (slot : Slot T name id) (ty : typeOf (.builtin id) = pure (.type "method_descriptor")) (hm : MtR X id r) (ho : PE X o to) (ha : PA X (e :: es) t)
    (h1 : attributeBase o name X.env (eval o X.env) = eval o X.env := by rfl)
    (h2 : ((backTo cpos (starEach (e :: es) X.env)).all (fun x => !x.1) && (backToKw cpos (keywordEach [] X.env)).all (fun x => x.1.isSome) && decide ((e :: es).length + ([] : List Keyword).length + (if ([] : List Keyword).isEmpty then 0 else 1) < 30)) = true := by rfl)
    (h3 : (apos.endLine == cpos.line) = true := by rfl) (h4 : starEach (e :: es) X.env = (false, eval e X.env) :: starEach es X.env := by rfl) (h5 : (backTo cpos (starEach es X.env)).any (·.1) = false := by rfl) :
    PE X (.Call (.Attribute o name apos) (e :: es) [] cpos) (tBM K T r to t) := by
  subst hK
  exact pe_bm pa slot ty hm ho ha h1 h2 h3 h4 h5
/-- len(x), x of an own class with its own __len__ -/
theorem call_lenOwn {X : Cx} {k : Nat} {C f : Addr} {fd : FuncData} {ps : List Str} {sp : Sp} (c : Cls X.K C) (m : Meth X.K C "__len__" f) (F : FnOk X.prog X.w X.K X.mg X.base CX0 k f fd ps sp) (hr : Room (k + 1) X.A) (hb : Binds X.K fd ps []) :
    CallR X (.builtin "len") (fun xs H Q => ∃ a dx fs, xs = [.ref a] ∧ H a = some (.ins C dx fs) ∧ sp [.ref a] H (fun v H' => ∃ n : Int, v = .int n ∧ 0 ≤ n ∧ n < 2 ^ 63 ∧ Q (.int n) H') E0) := by
  intro pins s σ H xs us Q I r h
  obtain ⟨a, dx, fs, rfl, ea, h⟩ := h
  obtain ⟨u, rfl, ru⟩ := vals1 r
  obtain rfl : u = Value.ref a := ru
  obtain ⟨mA, O, _⟩ := ins_get I.hok ea
  obtain ⟨od, J, _⟩ := O.look
  have hl : ([Value.ref a] ++ ([] : List Value)).length = ps.length := by
    rw [← F.len _ _ _ _ h]
    rfl
  refine Calls.call_function_entry kind_len plain_len entry_len (args_len1 _) ?_
  unfold Builtin.«len»
  refine wpAny_bind (m := oneArg "len" _) (wpAny_pure ?_)
  refine wpAny_bind (m := callSpecial? (.ref a) (Str.ofString "__len__")) (PySem.W.special_fn I.kIn J m.at_ (beq_iff_eq.mp m.fn) ?_)
  refine wpAny_call (codeAny_mono (F.run X.A.in1 X.stack s H ⟨[.ref a], []⟩ [.ref a] [.ref a] _ E0 hr.in1 I.env0.in1 (hb s [.ref a] I.kIn hl) (.cons rfl .nil) h) fun r s' hq => ?_)
  cases r with
  | error er => exact False.elim hq
  | ok fl =>
    cases fl with
    | ret u =>
      obtain ⟨v, H', I3, rv, n, ev, n0, n1, q3⟩ := I.after hq
      subst ev
      obtain ⟨t, rfl⟩ := rv
      refine wpAny_bind (wpAny_holding (wpAny_pure ?_))
      refine wpAny_bind (wpAny_letGo ?_)
      show wpAny _ _ (if n < 0 then _ else _) _ _ _
      rw [if_neg (by omega)]
      show wpAny _ _ (if n ≥ 2 ^ 63 then _ else _) _ _ _
      rw [if_neg (by omega)]
      exact wpAny_bind (wpAny_mkInt (wpAny_pure ⟨_, rfl, .int n, H', I3.tok _, ⟨_, rfl⟩, q3⟩))
    | next => exact False.elim hq
    | brk => exact False.elim hq
    | cont => exact False.elim hq
/-- an item of a dict that the module holds -/
theorem ix_kd {X : Cx} {d : Addr} {es : Array DictEntry} {n : Nat} (D : KDict X.K X.w d es n) : IxR X (fun x y H Q => ∃ (z : Str) (u0 : Value) (v0 : V), x = .ref d ∧ y = .str z ∧ PySem.W.nsIn X.K d z = some (some u0) ∧ RelV v0 u0 ∧ Q v0 H) := by
  intro value slice pins s σ H x y v u Q I rx ry h hs
  have hx : x = .ref d := by
    obtain ⟨z, u0, v0, hx, _⟩ := h
    exact hx
  have h2 := op_item_kd D pins s σ H x y v u Q I rx ry h
  subst hx
  obtain rfl : v = Value.ref d := rx
  exact tail_any (kd_type D I) PySem.slot_dict_getitem.lookup h2 hs
/-- the readings of list(..) and len(..), named -/
def rList (K : PySem.W.Frag) : List V → Hp → VK → Prop := fun xs H Q => ∃ p ys, xs = [.ref p] ∧ (SqL K H p ys ∨ SqT K H p ys) ∧ ∀ l, H l = none → Q (.ref l) (upd H l (.lst ys))
def rLen (K : PySem.W.Frag) : List V → Hp → VK → Prop := fun xs H Q => ∃ p ys, xs = [.ref p] ∧ (SqL K H p ys ∨ SqT K H p ys) ∧ Q (.int ys.length) H
/-- dict(zip(a, b)) -/
def tDictZip (K : PySem.W.Frag) (ta : TA) : TE := fun σ H Q => ta σ H fun vs H1 => ∃ (a b : Addr) (ks : List Key) (ys : List V), vs = [.ref a, .ref b] ∧ SqL K H1 a (ks.map kV) ∧ SqL K H1 b ys ∧ ks.length = ys.length ∧ ∀ d, H1 d = none → Q (.ref d) (upd H1 d (.dK (mergeK [] (ks.zip ys))))
theorem kv_zip : ∀ {ks : List Key} {ys : List V} {us : List Value}, Vals ys us → KV (ks.zip ys) (ks.zip us)
  | [], _, _, _ => .nil
  | _ :: _, _, _, .nil => .nil
  | _ :: _, _, _, .cons r t => .cons ⟨rfl, r⟩ (kv_zip t)
theorem pe_dictZip {X : Cx} {e1 e2 : Expr} {ta : TA} {p p2 pos pos2 : Pos} (hc : X.calm = true) (hg : Gl X "dict") (hm : X.mg "dict" = none) (hg2 : Gl X "zip") (hm2 : X.mg "zip" = none) (ha : PA X [e1, e2] ta)
    (na : starEach [.Call (.Name "zip" p2) [e1, e2] [] pos2] X.env = (false, eval (.Call (.Name "zip" p2) [e1, e2] [] pos2) X.env) :: starEach [] X.env := by rfl)
    (hs : starEach [e1, e2] X.env = (false, eval e1 X.env) :: starEach [e2] X.env := by rfl) (hpl : (backTo pos2 (starEach [e2] X.env)).any (·.1) = false := by rfl) :
    PE X (.Call (.Name "dict" p) [.Call (.Name "zip" p2) [e1, e2] [] pos2] [] pos) (tDictZip X.K ta) := by
  refine ⟨fun pins s σ H Q I h => ?_⟩
  refine Call_ (ld_blt I hg hm PyProof.Rows.boot_dict (PyProof.Rows.callWith_type1 (args_cons (Call_ (ld_blt I hg2 hm2 PyProof.Rows.boot_zip (PyProof.Rows.callWith_type1 (thn (ha.run pos2 pins s σ H _ I h) fun us s1 ⟨vs, H1, I1, r1, q1⟩ => ?_) hs hpl))) na) na))
  obtain ⟨a, b, ks, ys, ex, hqx, hqy, hlen, q⟩ := q1
  subst ex
  obtain ⟨u1, u2, rfl, ra, rb⟩ := vals2 r1
  obtain rfl : u1 = Value.ref a := ra
  obtain rfl : u2 = Value.ref b := rb
  obtain ⟨its, rv, p1, z1⟩ := I1.list hqx
  obtain ⟨its2, rv2, p2, _⟩ := I1.list hqy
  have la : a < s1.heap.objs.size := p1.lt
  have lb : b < s1.heap.objs.size := p2.lt
  have n1 := rv.length
  have n2 := rv2.length
  rw [List.length_map] at n1 z1
  refine call_zip_2 p1.isList p2.isList fun h' hz hTI hTO h1 h2 hsz hk => args_nil ?_
  refine PySem.call_dict_pairs (knd := mixKind X.prog X.w) (kvs := ks.zip its2) (PairArg.zip _ _ _ _ _ _ _ (PySem.W.ktu_apart s1.heap.objs.size a b la lb) its.toArray its2.toArray) (I1.ok.hd hc)
    ⟨hz, hTI, ⟨_, _, hTO⟩, h1, h2, p1.isList.at fun o e => hk _ _ e, p2.isList.at fun o e => hk _ _ e⟩ ⟨?_, fun i key v hr => ?_⟩ ?_ fun h'' tk hd' hk' => ?_
  · rw [List.length_zip, List.size_toArray, List.size_toArray]
    omega
  · obtain ⟨e1, e2⟩ := hr
    have e1' : its[i]? = some key := by simpa using e1
    have e2' : its2[i]? = some v := by simpa using e2
    have hi : i < ks.length := by
      have := (List.getElem?_eq_some_iff.mp e1').1
      omega
    obtain ⟨w', hw, rw'⟩ := rv.get (i := i) (x := kV ks[i]) (by rw [List.getElem?_map, List.getElem?_eq_getElem hi]; rfl)
    rw [e1'] at hw
    obtain rfl := Option.some.inj hw
    refine ⟨ks[i], ?_, kV_is rw'⟩
    rw [List.getElem?_zip_eq_some]
    exact ⟨List.getElem?_eq_getElem hi, e2'⟩
  · rw [List.size_toArray]
    have : min its.length its2.toArray.size ≤ its.length := Nat.min_le_left _ _
    omega
  · have es : h'.objs.size = s1.heap.objs.size + 5 := hsz
    have hm' : (h'.objs.size == sysModules) = false := beq_eq_false_iff_ne.mpr (Nat.ne_of_gt (Nat.lt_of_lt_of_le I1.big (by rw [es]; exact Nat.le_add_right _ _)))
    have hl2 : (mergeK [] (ks.zip ys)).length ≤ sizeLine := by
      refine Nat.le_trans (length_mergeK _ []) ?_
      rw [List.length_nil, Nat.zero_add, List.length_zip]
      omega
    have keep : ∀ c o, s1.heap.get? c = some o → h''.get? c = some o := fun c o e => by
      refine hk' c o ?_ (hk c o e)
      have := Heap.lt_size e
      simp only [List.mem_cons, List.not_mem_nil, or_false, not_or]
      refine ⟨fun z => ?_, fun z => ?_, fun z => ?_, fun z => ?_⟩ <;> rw [z] at this
      · exact absurd this (Nat.not_lt.mpr (Nat.le_add_right _ _))
      · exact absurd this (Nat.not_lt.mpr (Nat.le_add_right _ _))
      · exact absurd this (Nat.lt_irrefl _)
      · exact absurd this (Nat.not_lt.mpr (Nat.le_add_right _ _))
    exact ⟨.ref h'.objs.size, upd H1 h'.objs.size (.dK (mergeK [] (ks.zip ys))), I1.laid (t' := tk) keep (by omega) (show ObjOk X.prog X.w _ _ _ (.dK (mergeK [] (ks.zip ys))) from ⟨hl2, hm', merged [] (ks.zip its2), KV.merge (kv_zip rv2) .nil, hd'⟩), rfl, q _ (I1.hok.fresh (by omega))⟩
theorem pe_callN0 {X : Cx} {CX : CXT} {k : Nat} {f : Addr} {fd : FuncData} {ps ks : List Str} {sp : Sp} {E : XK} {x : Str} {p pos : Pos} {kws : List Keyword} {tk : TA} {g : List Value → List Value → List Value} {gV : List V → List V → List V}
    (F : FnOk X.prog X.w X.K X.mg X.base CX k f fd ps sp) (hr : Room k X.A) (hg : Gl X x) (hm : X.mg x = some (.ref f)) (kp : PySem.W.keepIn X.K (.ref f) = true) (hb : KBn X.K fd ps 0 ks g gV) (hx : Passes CX X E) (hkw : PK X kws tk)
    (h1 : (backToKw pos (keywordEach kws X.env)).all (·.1.isSome) = true := by rfl) (h2 : (backToKw pos (keywordEach kws X.env)).filterMap (·.1) = ks := by rfl) (h3 : (x == ("__debug__" : Str)) = false := by decide)
    (h4 : ((backTo pos (starEach [] X.env)).any (·.1) || (backToKw pos (keywordEach kws X.env)).any (·.1.isNone)) = false := by rfl) :
    PE X (.Call (.Name x p) [] kws pos) (tCallN 0 ks.length sp gV E tNil tk) := by
  refine ⟨fun pins s σ H Q I h => wpAny_Call_Name_kw (ld_glob I hg hm ?_ h3)⟩
  refine PySem.W.callWith_KW0 (h₀ := X.base) I.ok.mod.kin kp h1 ?_ h4
  refine thn (hkw.run pos pins s σ H _ I h) fun ws s2 ⟨zs, H2, I2, rz, l1, l2, q2⟩ => ⟨I2.kIn, ?_⟩
  rw [h2]
  exact run_fnN (us := []) (vs := []) F hr hb hx I2 .nil rz rfl l2 q2
/-- o.m(k = v, ..), nothing by position -/
def tMethN (C : Addr) (m : Str) (n : Nat) (sp : Sp) (gV : List V → List V → List V) (E : XK) (ta : TE) (tk : TA) : TE := fun σ H Q => ta σ H fun x H1 => ∃ (a dx : Addr) (fs : List (Str × V)), x = .ref a ∧ H1 a = some (.ins C dx fs) ∧ fs.lookup m = none ∧ tk σ H1 fun zs H2 => zs.length = n ∧ sp (gV [.ref a] zs) H2 Q E
theorem pe_methN0 {X : Cx} {CX : CXT} {k : Nat} {C f : Addr} {fd : FuncData} {ps ks : List Str} {sp : Sp} {E : XK} {m : Str} {apos pos : Pos} {o : Expr} {kws : List Keyword} {ta : TE} {tk : TA} {g : List Value → List Value → List Value} {gV : List V → List V → List V} {pl : Sem Bool}
    (he : PE X o ta) (c : Cls X.K C) (hm : Meth X.K C m f) (F : FnOk X.prog X.w X.K X.mg X.base CX k f fd ps sp) (hr : Room k X.A) (hb : KBn X.K fd ps 1 ks g gV) (hx : Passes CX X E) (hkw : PK X kws tk)
    (h1 : (backToKw pos (keywordEach kws X.env)).all (·.1.isSome) = true := by rfl) (h2 : (backToKw pos (keywordEach kws X.env)).filterMap (·.1) = ks := by rfl)
    (h4 : ((backTo pos (starEach [] X.env)).any (·.1) || (backToKw pos (keywordEach kws X.env)).any (·.1.isNone)) = false := by rfl)
    (ht : eval (.Call (.Attribute o m apos) [] kws pos) X.env = (do let ov ← eval o X.env; standAt apos.atName; let (f, first) ← holding [ov] (getMethod ov m pl); callWith pos f first (backTo pos (starEach [] X.env)) (backToKw pos (keywordEach kws X.env))) := by rfl) :
    PE X (.Call (.Attribute o m apos) [] kws pos) (tMethN C m ks.length sp gV E ta tk) := by
  refine ⟨fun pins s σ H Q I h => PySem.W.methodCall_KW (pl := pl) (thn (he.run pins s σ H _ I h) fun u s1 ⟨x, H1, I1, rx, a, dx, fs, ex, ea, l, q⟩ => ?_) ht⟩
  subst ex
  obtain rfl : u = Value.ref a := rx
  refine getmeth_ok I1 ea c hm l (PySem.W.callWith_KW0 (first := [.ref a]) (h₀ := X.base) I.ok.mod.kin hm.kp h1 (thn (hkw.run pos pins s1 σ H1 _ I1 q) fun ws s2 ⟨zs, H2, I2, rz, l2, q2⟩ => ⟨I2.kIn, ?_⟩) h4)
  rw [h2]
  exact run_fnN (us := [.ref a]) (vs := [.ref a]) F hr hb hx I2 (.cons rfl .nil) rz rfl l2 q2
/-! ### a dict of the module: d.get(k, x) -/
def tGetKD (K : PySem.W.Frag) (d : Addr) (td ty tx : TE) : TE := fun σ H Q => td σ H fun x H1 => x = .ref d ∧ ty σ H1 fun y H2 => tx σ H2 fun z H3 => ∃ (k : Str) (r : Option Value) (v0 : V), y = .str k ∧ PySem.W.nsIn K d k = some r ∧ (r = none → v0 = z) ∧ (∀ u0, r = some u0 → RelV v0 u0) ∧ Q v0 H3
theorem pe_getKD {X : Cx} {o e f : Expr} {apos cpos : Pos} {td ty tx : TE} {d : Addr} {es : Array DictEntry} {n : Nat} (D : KDict X.K X.w d es n) (ho : PE X o td) (he : PE X e ty) (hf : PE X f tx) (m : M2 X o "get" apos e f cpos) : PE X (.Call (.Attribute o "get" apos) [e, f] [] cpos) (tGetKD X.K d td ty tx) := by
  refine ⟨fun pins s σ H Q I h => ?_⟩
  refine wpAny_Call_method m.base m.few m.line PySem.F.plainAttrs_dict PySem.F.slot_dict_get PySem.F.type_dict_get (thn (ho.run pins s σ H _ I h) fun u s1 ⟨x, H1, I1, rx, ex, q1⟩ => ?_)
  subst ex
  obtain rfl : u = Value.ref d := rx
  refine ⟨kd_type D I1, fun b q => ?_, ?_⟩
  · cases q
    exact ⟨_, I1.kIn _ _ D.at_, rfl⟩
  rw [m.trees]
  refine Calls.callWith_builtin rfl (Calls.evalArgs_plain (Calls.spliced_cons (thn (he.run pins s1 σ H1 _ I1 q1) fun iv s2 ⟨y, H2, I2, ry, q2⟩ =>
    Calls.spliced_cons (thn (hf.run pins s2 σ H2 _ I2 q2) fun fv s3 ⟨z, H3, I3, rz, k, r, v0, ey, hn, h0, h1, q3⟩ => Calls.spliced_nil ?_))))
  subst ey
  obtain ⟨t, rfl⟩ := ry
  have M := PySem.W.mapOf_K (prog := X.prog) (w := X.w) I3.kIn D.at_ D.lit
  refine call_meetsIn PySem.F.slot_dict_get M.typeIs PySem.F.entry_dict_get (PySem.F.args_dict_get_3 _ _ _) (meets_dict_get_default (strKind X.prog X.w) d (PySem.strKind_is X.prog X.w k t) D.low fv) ⟨_, M, ?_⟩
  have e := PySem.W.find_K D.at_ hn
  rw [e]
  refine ⟨v0, H3, I3.tok _, ?_, q3⟩
  cases r with
  | none => rw [h0 rfl]; exact rz
  | some u0 => exact h1 u0 rfl
/-! ### == of two instances of a class with its own __eq__ -/
def rEqOwn (C : Addr) (sp : Sp) (E : XK) : R2 := fun x y H Q => ∃ a b dx dy fs gs, x = .ref a ∧ y = .ref b ∧ H a = some (.ins C dx fs) ∧ H b = some (.ins C dy gs) ∧ sp [.ref a, .ref b] H Q E
theorem op_eqOwn {X : Cx} {k : Nat} {C f : Addr} {fd : FuncData} {ps : List Str} {sp : Sp} (m : Meth X.K C "__eq__" f) (F : FnOk X.prog X.w X.K X.mg X.base CX0 k f fd ps sp) (hr : Room k X.A) (hb : Binds X.K fd ps []) : OpR X (compareOp .Eq) (rEqOwn C sp E0) := by
  intro pins s σ H x y v u Q I rx ry h
  obtain ⟨a, b, dx, dy, fs, gs, rfl, rfl, ha, hb', h⟩ := h
  obtain rfl : v = Value.ref a := rx
  obtain rfl : u = Value.ref b := ry
  obtain ⟨mA, J, _⟩ := ins_get I.hok ha
  obtain ⟨mB, J', _⟩ := ins_get I.hok hb'
  obtain ⟨od, J, _⟩ := J.look
  obtain ⟨od', J', _⟩ := J'.look
  obtain ⟨m', hF⟩ := I.fr
  have hl : ([Value.ref a, Value.ref b] ++ ([] : List Value)).length = ps.length := by
    rw [← F.len _ _ _ _ h]
    rfl
  show wpAny (model X.prog X.w) X.A (richCompare .Eq (.ref a) (.ref b)) (EP X pins σ Q) X.xe s
  refine PySem.W.cmp_K (op := .Eq) (tb := .ref C) hr.units0 hF I.ok.mod.kin J J'.type (by simp [PySem.W.notFirst]) m.at_ m.fn ?_
  refine wpAny_call (codeAny_mono (F.run X.A X.stack s H ⟨[.ref a, .ref b], []⟩ [.ref a, .ref b] [.ref a, .ref b] _ E0 hr I.env0 (hb s [.ref a, .ref b] I.kIn hl) (.cons rfl (.cons rfl .nil)) h) fun r s' hq => ?_)
  cases r with
  | error er => exact False.elim hq
  | ok fl =>
    cases fl with
    | ret w =>
      obtain ⟨z', H', I', rz, qz⟩ := I.after hq
      exact SlX.cmpback rz ⟨z', H', I', rz, qz⟩
    | next => exact False.elim hq
    | brk => exact False.elim hq
    | cont => exact False.elim hq
/-! ### x & y of two instances of a class with its own __and__ -/
theorem op_andOwn {X : Cx} {k : Nat} {C f : Addr} {fd : FuncData} {ps : List Str} {sp : Sp} (hc : PySem.W.selfFirst X.K C = true) (m : Meth X.K C "__and__" f) (F : FnOk X.prog X.w X.K X.mg X.base CX0 k f fd ps sp) (hr : Room k X.A) (hb : Binds X.K fd ps []) : OpR X (binaryOp .BitAnd) (rEqOwn C sp E0) := by
  intro pins s σ H x y v u Q I rx ry h
  obtain ⟨a, b, dx, dy, fs, gs, rfl, rfl, ha, hb', h⟩ := h
  obtain rfl : v = Value.ref a := rx
  obtain rfl : u = Value.ref b := ry
  obtain ⟨mA, J, _⟩ := ins_get I.hok ha
  obtain ⟨mB, J', _⟩ := ins_get I.hok hb'
  obtain ⟨od, J, _⟩ := J.look
  obtain ⟨od', J', _⟩ := J'.look
  obtain ⟨m', hF⟩ := I.fr
  have hl : ([Value.ref a, Value.ref b] ++ ([] : List Value)).length = ps.length := by
    rw [← F.len _ _ _ _ h]
    rfl
  refine PySem.W.binop_K (op := .BitAnd) hF I.ok.mod.kin J J'.type hc m.at_ m.fn ?_
  refine wpAny_call (codeAny_mono (F.run X.A X.stack s H ⟨[.ref a, .ref b], []⟩ [.ref a, .ref b] [.ref a, .ref b] _ E0 hr I.env0 (hb s [.ref a, .ref b] I.kIn hl) (.cons rfl (.cons rfl .nil)) h) fun r s' hq => ?_)
  cases r with
  | error er => exact False.elim hq
  | ok fl =>
    cases fl with
    | ret w =>
      obtain ⟨z', H', I', rz, qz⟩ := I.after hq
      exact SlX.cmpback rz ⟨z', H', I', rz, qz⟩
    | next => exact False.elim hq
    | brk => exact False.elim hq
    | cont => exact False.elim hq
theorem pe_fldK {X : Cx} {K : PySem.W.Frag} (hK : X.K = K) {e : Expr} {f : Str} {pos : Pos} {ta : TE} (he : PE X e ta) (hb : attributeBase e f X.env (eval e X.env) = eval e X.env) : PE X (.Attribute e f pos) (tFld K ta f) := by
  subst hK
  exact pe_fld he hb
/-! ### range(n) as a value, and walked -/
theorem cr_range1 {X : Cx} : CallR X (.type "range") (fun vs H Q => ∃ j, vs = [V.int j] ∧ ∀ p, H p = none → Q (.ref p) (upd H p (.rng 0 j))) := by
  intro pins s σ H vs us Q I r h
  obtain ⟨j, rfl, q⟩ := h
  obtain ⟨u1, rfl, rj⟩ := vals1 r
  obtain ⟨t, rfl⟩ := rj
  refine call_range_1 ⟨.ref s.heap.objs.size, upd H s.heap.objs.size (.rng 0 j), I.laid (t' := s.toks + 1 + 1) (fun b o e => Heap.get?_push_of_some _ e) (Nat.le_refl _) ?_, rfl, q _ (I.hok.fresh (Nat.le_refl _))⟩
  exact ⟨_, _, _, Heap.get?_push_size _ rfl⟩
def iRngV (tl : TE) : TI := fun σ H R => tl σ H fun x H1 => ∃ (a : Addr) (lo hi : Int), x = .ref a ∧ H1 a = some (.rng lo hi) ∧ (-(2 ^ 62) ≤ lo ∧ lo < 2 ^ 62 ∧ -(2 ^ 62) ≤ hi ∧ hi < 2 ^ 62) ∧ R (Itr lo (hi - lo).toNat) H1
theorem pi_rngV {X : Cx} {tg : Expr} {l : Expr} {tl : TE} (hl : PE X l tl) : PI X tg l (iRngV tl) := by
  refine ⟨fun pins s σ H R I h => ?_⟩
  refine thn (hl.run pins s σ H _ I h) fun v s1 ⟨x, H1, I1, r1, q1⟩ => ?_
  obtain ⟨a, lo, hi, e, hr, ⟨h1, h2, h3, h4⟩, q⟩ := q1
  subst e
  cases r1
  obtain ⟨t, u, w, ho⟩ := I1.hok a _ hr
  refine wpAny_pyIter_range (show IsRange s1.heap a lo hi 1 t u w from ho) (small_one h1 h2 h3 h4) ?_
  refine ⟨s1.heap.objs.size, [s1.heap.objs.size], _, _, H1, rfl, I1.kept (t' := s1.toks) fun b o e => Heap.get?_push_of_some _ e, turn_range _ lo (hi - lo).toNat, ?_, fun b hb => ?_, q⟩
  · have e1 : lo + ((0 : Nat) : Int) * 1 = lo := by simp
    have e2 : (((hi - lo).toNat : Nat) : Int) - ((0 : Nat) : Int) = Builtin.Range.rangeSize lo hi 1 := by rw [rangeSize_one]; split <;> omega
    show IsRangeIter _ _ (lo + ((0 : Nat) : Int) * 1) ((((hi - lo).toNat : Nat) : Int) - ((0 : Nat) : Int)) 1
    rw [e1, e2]
    exact Heap.get?_push_size _ rfl
  · have e : b = s1.heap.objs.size := by simpa using hb
    subst e
    exact I1.fpOk (Nat.le_refl _) (I1.hok.fresh (Nat.le_refl _))
/-- a tuple as a comprehension's target -/
theorem pg_tupK {X : Cx} {K : PySem.W.Frag} (hK : X.K = K) {es : List Expr} {k : Nat} {pos : Pos} {t : TGs} {n : Nat} (hc : X.calm = true) (h : PGs X es t)
    (hn : (assignEach es X.env).length = n := by rfl) (hst : (assignEach es X.env).findIdx? (·.1) = none := by rfl) : PG X (.Tuple es k pos) (gTup K n t) := by
  subst hK
  exact pg_tup hc h hn hst
/-! ### errors with one value: made, raised, passed on -/
theorem passE {X : Cx} {E : XK} (tk : Takes X (fun cls d _ H => E cls d H)) : Passes (L2.CX X.prog X.w) X E := fun pins σ H s e s' I c => passes_call tk (fun _ _ _ _ h => h) pins σ H s e s' I c
def sp_einit (K : PySem.W.Frag) : Sp := fun vs H Q _ => ∃ (a C : Addr) (y : V), vs = [.ref a, y] ∧ OexC K C ∧ PySem.W.findIn K (.ref C) "value" = some none ∧ H a = some (exo a C none) ∧ ∀ dx, H dx = none → dx ≠ a → Q .non (upd (upd H dx (exd dx [(("value" : Str), y)])) a (exo a C (some dx)))
theorem raised {K : PySem.W.Frag} {C : Addr} {y : V} {H : Hp} {W : Value → Option Addr → Hp → Prop} (ox : OexC K C) (nv : PySem.W.findIn K (.ref C) "value" = some none) (k : ∀ d H', H d = none → Same H H' → H' d = some (.xd [(("value" : Str), y)]) → W (.ref C) (some d) H') :
    ∀ a, H a = none → sp_einit K (.ref a :: ([y] ++ [])) (upd H a (exo a C none)) (fun v H2 => v = .non ∧ ∃ (d : Addr) (fs : List (Str × V)), H2 a = some (exo a C (some d)) ∧ H2 d = some (exd d fs) ∧ H d = none ∧ W (.ref C) (some d) (upd (del H2 a) d (.xd fs))) (fun _ _ _ => False) := by
  intro a ha
  refine ⟨a, C, y, rfl, ox, nv, upd_same, fun dx hdx ne => ⟨rfl, dx, _, upd_same, by rw [upd_ne ne, upd_same], ?_, ?_⟩⟩
  · rw [upd_ne ne] at hdx
    exact hdx
  · rw [upd_ne ne] at hdx
    refine k dx _ hdx (fun b o e => ?_) upd_same
    have n1 := ne_of_none e hdx
    have n2 := ne_of_none e ha
    rw [upd_ne n1, del_ne n2, upd_ne n2, upd_ne n1, upd_ne n2]
    exact e
/-! ### calls whose errors a try around takes, at the slots -/
section
variable {X : Cx} {CX : CXT} {k : Nat} {f C : Addr} {fd : FuncData} {ps : List Str} {sp : Sp} {E : L2.St → XK} {m : Str} {pos apos : Pos} {e o : Expr} {es : List Expr} {ta tb : TE} {t : TA}
def tMethS (C : Addr) (m : Str) (sp : Sp) (E : L2.St → XK) (ta : TE) (t : TA) : TE := fun σ H Q => ta σ H fun x H1 => ∃ (a dx : Addr) (fs : List (Str × V)), x = .ref a ∧ H1 a = some (.ins C dx fs) ∧ fs.lookup m = none ∧ t σ H1 fun vs H2 => sp (.ref a :: vs) H2 Q (E σ)
theorem pe_methS {pl : Sem Bool} (he : PE X o ta) (c : Cls X.K C) (hm : Meth X.K C m f) (F : FnOk X.prog X.w X.K X.mg X.base CX k f fd ps sp) (hr : Room k X.A) (hb : Binds X.K fd ps []) (hx : ∀ σ, PassesAt CX X σ (E σ)) (ha : PA X (e :: es) t)
    (hst : starEach (e :: es) X.env = (false, eval e X.env) :: starEach es X.env := by rfl) (hpl : (backTo pos (starEach es X.env)).any (·.1) = false := by rfl)
    (ht : eval (.Call (.Attribute o m apos) (e :: es) [] pos) X.env = (do
      let ov ← eval o X.env
      standAt apos.atName
      let (f, first) ← holding [ov] (getMethod ov m pl)
      callWith pos f first (backTo pos (starEach (e :: es) X.env)) (backToKw pos (keywordEach [] X.env))) := by rfl) :
    PE X (.Call (.Attribute o m apos) (e :: es) [] pos) (tMethS C m sp E ta t) := by
  refine ⟨fun pins s σ H Q I h => ?_⟩
  refine PySem.W.methodCall_KW (pl := pl) (thn (he.run pins s σ H _ I h) fun u s1 ⟨x, H1, I1, rx, a, dx, fs, ex, ea, l, q⟩ => ?_) ht
  subst ex
  obtain rfl : u = Value.ref a := rx
  refine getmeth_ok I1 ea c hm l ?_
  refine PySem.W.callWith_K (first := [.ref a]) (h₀ := X.base) I.ok.mod.kin hm.kp (thn (ha.run pos pins s1 σ H1 _ I1 q) fun us s2 ⟨vs, H2, I2, r, q2⟩ => ⟨I2.kIn, ?_⟩) hst hpl
  exact run_fnS (us := .ref a :: us) (vs := .ref a :: vs) F hr hb (hx σ) I2 (.cons rfl r) q2
theorem run_fnNS {n : Nat} {ks : List Str} {g : List Value → List Value → List Value} {gV : List V → List V → List V} {pins : List (Addr × Obj)} {σ : L2.St} {H : Hp} {s : Shared} {Q : VK} {us ws : List Value} {vs zs : List V} (F : FnOk X.prog X.w X.K X.mg X.base CX k f fd ps sp) (hr : Room k X.A) (hb : KBn X.K fd ps n ks g gV) (hx : PassesAt CX X σ (E σ))
    (I : Inv X pins σ H s) (r : Vals vs us) (rz : Vals zs ws) (l1 : vs.length = n) (l2 : zs.length = ks.length) (h : sp (gV vs zs) H Q (E σ)) : wpAny (model X.prog X.w) X.A (call (.ref f) us (ks.zip ws)) (EP X pins σ Q) X.xe s := by
  have r2 := hb.rel r rz
  refine wpAny_call (codeAny_mono (F.run X.A X.stack s H ⟨us, ks.zip ws⟩ (g us ws) (gV vs zs) Q (E σ) hr I.env0 (hb.to s us ws I.kIn (r.length.symm.trans l1) (rz.length.symm.trans l2)) r2 h) fun r s' hq => ?_)
  cases r with
  | error e => exact hx pins H s e s' I hq
  | ok fl =>
    cases fl with
    | ret u => exact I.after hq
    | next => exact False.elim hq
    | brk => exact False.elim hq
    | cont => exact False.elim hq
def tMethNS (C : Addr) (m : Str) (n : Nat) (sp : Sp) (gV : List V → List V → List V) (E : L2.St → XK) (ta : TE) (tk : TA) : TE := fun σ H Q => ta σ H fun x H1 => ∃ (a dx : Addr) (fs : List (Str × V)), x = .ref a ∧ H1 a = some (.ins C dx fs) ∧ fs.lookup m = none ∧ tk σ H1 fun zs H2 => zs.length = n ∧ sp (gV [.ref a] zs) H2 Q (E σ)
theorem pe_methNS {ks : List Str} {kws : List Keyword} {tk : TA} {g : List Value → List Value → List Value} {gV : List V → List V → List V} {pl : Sem Bool}
    (he : PE X o ta) (c : Cls X.K C) (hm : Meth X.K C m f) (F : FnOk X.prog X.w X.K X.mg X.base CX k f fd ps sp) (hr : Room k X.A) (hb : KBn X.K fd ps 1 ks g gV) (hx : ∀ σ, PassesAt CX X σ (E σ)) (hkw : PK X kws tk)
    (h1 : (backToKw pos (keywordEach kws X.env)).all (·.1.isSome) = true := by rfl) (h2 : (backToKw pos (keywordEach kws X.env)).filterMap (·.1) = ks := by rfl)
    (h4 : ((backTo pos (starEach [] X.env)).any (·.1) || (backToKw pos (keywordEach kws X.env)).any (·.1.isNone)) = false := by rfl)
    (ht : eval (.Call (.Attribute o m apos) [] kws pos) X.env = (do let ov ← eval o X.env; standAt apos.atName; let (f, first) ← holding [ov] (getMethod ov m pl); callWith pos f first (backTo pos (starEach [] X.env)) (backToKw pos (keywordEach kws X.env))) := by rfl) :
    PE X (.Call (.Attribute o m apos) [] kws pos) (tMethNS C m ks.length sp gV E ta tk) := by
  refine ⟨fun pins s σ H Q I h => PySem.W.methodCall_KW (pl := pl) (thn (he.run pins s σ H _ I h) fun u s1 ⟨x, H1, I1, rx, a, dx, fs, ex, ea, l, q⟩ => ?_) ht⟩
  subst ex
  obtain rfl : u = Value.ref a := rx
  refine getmeth_ok I1 ea c hm l (PySem.W.callWith_KW0 (first := [.ref a]) (h₀ := X.base) I.ok.mod.kin hm.kp h1 (thn (hkw.run pos pins s1 σ H1 _ I1 q) fun ws s2 ⟨zs, H2, I2, rz, l2, q2⟩ => ⟨I2.kIn, ?_⟩) h4)
  rw [h2]
  exact run_fnNS (us := [.ref a]) (vs := [.ref a]) F hr hb (hx σ) I2 (.cons rfl .nil) rz rfl l2 q2
/-- o[i], o of an own class with its own __getitem__ -/
def tIxOwn (C : Addr) (sp : Sp) (E : L2.St → XK) (ta tb : TE) : TE := fun σ H Q => ta σ H fun x H1 => tb σ H1 fun y H2 => ∃ (a dx : Addr) (fs : List (Str × V)), x = .ref a ∧ H2 a = some (.ins C dx fs) ∧ sp [.ref a, y] H2 Q (E σ)
theorem pe_ixOwn (m : Meth X.K C "__getitem__" f) (hfn : PySem.W.fnIn X.K f = true) (F : FnOk X.prog X.w X.K X.mg X.base CX k f fd ps sp) (hr : Room (k + 1) X.A) (hb : Binds X.K fd ps []) (hx : ∀ σ, PassesAt CX X σ (E σ)) (ha : PE X o ta) (hbe : PE X e tb)
    (hsl : ∀ x i, subscripted e true (.ref x) i = runValue (.builtin "lifetime.subscript" ⟨[.ref x, i], []⟩) := by intro _ _; rfl) : PE X (.Subscript o e pos) (tIxOwn C sp E ta tb) := by
  refine ⟨fun pins s σ H Q I h => ?_⟩
  refine Subscript_ (thn (ha.run pins s σ H _ I h) fun v s1 ⟨x, H1, I1, r1, q1⟩ => thn (hbe.run pins s1 σ H1 _ I1 q1) fun u s2 ⟨y, H2, I2, r2, a, dx, fs, ex, ea, q2⟩ => ?_)
  subst ex
  obtain rfl : v = Value.ref a := r1
  obtain ⟨mA, O, _⟩ := ins_get I2.hok ea
  obtain ⟨od, J, _⟩ := O.look
  obtain ⟨m', hF⟩ := I2.fr
  have hl : ([Value.ref a, u] ++ ([] : List Value)).length = ps.length := by
    rw [← F.len _ _ _ _ q2]
    rfl
  refine PySem.W.sub_K hF I.ok.mod.kin J m.at_ hfn m.fn ?_ (hsl _ _)
  refine wpAny_call (codeAny_mono (F.run X.A.in1 X.stack s2 H2 ⟨[.ref a, u], []⟩ [.ref a, u] [.ref a, y] _ (E σ) hr.in1 I2.env0.in1 (hb s2 [.ref a, u] I2.kIn hl) (.cons rfl (.cons r2 .nil)) q2) fun r s' hq => ?_)
  cases r with
  | error er => exact hx σ pins H2 s2 er s' I2 hq
  | ok fl =>
    cases fl with
    | ret w => exact I2.after hq
    | next => exact False.elim hq
    | brk => exact False.elim hq
    | cont => exact False.elim hq
end
/-- outside of a try nothing is let out: the promise must say so -/
theorem passLS {X : Cx} (σ : L2.St) : PassesAt (L2.CX X.prog X.w) X σ E0 := fun pins H s e s' I c => passL pins σ H s e s' I c
theorem pass0S {X : Cx} {E : XK} (σ : L2.St) : PassesAt CX0 X σ E := fun _ _ _ _ _ _ c => c.elim
theorem passES {X : Cx} {E : XK} (tk : Takes X (fun cls d _ H => E cls d H)) (σ : L2.St) : PassesAt (L2.CX X.prog X.w) X σ E := fun pins H s e s' I c => passE tk pins σ H s e s' I c
/-! ### == and != of an instance of a class with its own __eq__ and a value of another kind, in both orders -/
section
open PySem.W
theorem int_eq_ins (b : Int) (u : Tok) (l C dx : Addr) :
    Meets (Builtin.«int.__eq__» ⟨[.int b u, .ref l], []⟩) (fun _ R s => s.heap.get? l = some (instObj C dx) ∧ R (.ok (.ret .notImplemented)) s) :=
  .of_wp fun prog w A R s h => by obtain ⟨hp, g, d, tk, os⟩ := s; obtain ⟨hl, h⟩ := h; wp_walk using wpAny_loadPart' hl, wpAny_load hl; exact ⟨_, rfl, h⟩
theorem int_ne_ins (b : Int) (u : Tok) (l C dx : Addr) :
    Meets (Builtin.«int.__ne__» ⟨[.int b u, .ref l], []⟩) (fun _ R s => s.heap.get? l = some (instObj C dx) ∧ R (.ok (.ret .notImplemented)) s) :=
  .of_wp fun prog w A R s h => by obtain ⟨hp, g, d, tk, os⟩ := s; obtain ⟨hl, h⟩ := h; wp_walk using wpAny_loadPart' hl, wpAny_load hl; exact ⟨_, rfl, h⟩
theorem str_eq_ins (b : Str) (u : Tok) (l C dx : Addr) :
    Meets (Builtin.«str.__eq__» ⟨[.str b u, .ref l], []⟩) (fun _ R s => s.heap.get? l = some (instObj C dx) ∧ R (.ok (.ret .notImplemented)) s) :=
  .of_wp fun prog w A R s h => by obtain ⟨hp, g, d, tk, os⟩ := s; obtain ⟨hl, h⟩ := h; wp_walk using wpAny_loadPart' hl, wpAny_load hl; exact ⟨_, rfl, h⟩
theorem str_ne_ins (b : Str) (u : Tok) (l C dx : Addr) :
    Meets (Builtin.«str.__ne__» ⟨[.str b u, .ref l], []⟩) (fun _ R s => s.heap.get? l = some (instObj C dx) ∧ R (.ok (.ret .notImplemented)) s) :=
  .of_wp fun prog w A R s h => by obtain ⟨hp, g, d, tk, os⟩ := s; obtain ⟨hl, h⟩ := h; wp_walk using wpAny_loadPart' hl, wpAny_load hl; exact ⟨_, rfl, h⟩
theorem none_eq_ins (l : Addr) : Gives (Builtin.«NoneType.__eq__» ⟨[.none, .ref l], []⟩) (.val (Value.notImplemented)) :=
  .of_wp fun M A E s Q h => by obtain ⟨hp, g, d, tk, os⟩ := s; wp_walk; exact ⟨_, rfl, h⟩
theorem none_ne_ins (l : Addr) : Gives (Builtin.«NoneType.__ne__» ⟨[.none, .ref l], []⟩) (.val (Value.notImplemented)) :=
  .of_wp fun M A E s Q h => by obtain ⟨hp, g, d, tk, os⟩ := s; wp_walk; exact ⟨_, rfl, h⟩
def NotOf (x : Addr) (n : String) (s : Shared) : Prop := ∀ (M : Model) (A : Around) (Q : Bool → Shared → Prop) (E : Value → Shared → Prop), Q false s → wpAny M A (isInstance (.ref x) (.type n)) Q E s
theorem list_eq_ins (l x : Addr) : Meets (Builtin.«list.__eq__» ⟨[.ref l, .ref x], []⟩) (fun _ R s => NotOf x "list" s ∧ R (.ok (.ret .notImplemented)) s) :=
  .of_wp fun prog w A R s h => by obtain ⟨hp, g, d, tk, os⟩ := s; obtain ⟨f1, h⟩ := h; unfold NotOf at f1; wp_walk using f1; exact ⟨_, rfl, h⟩
theorem list_ne_ins (l x : Addr) : Meets (Builtin.«list.__ne__» ⟨[.ref l, .ref x], []⟩) (fun _ R s => NotOf x "list" s ∧ R (.ok (.ret .notImplemented)) s) :=
  .of_wp fun prog w A R s h => by obtain ⟨hp, g, d, tk, os⟩ := s; obtain ⟨f1, h⟩ := h; unfold NotOf at f1; wp_walk using f1; exact ⟨_, rfl, h⟩
theorem tuple_eq_ins (l x : Addr) : Meets (Builtin.«tuple.__eq__» ⟨[.ref l, .ref x], []⟩) (fun _ R s => NotOf x "tuple" s ∧ R (.ok (.ret .notImplemented)) s) :=
  .of_wp fun prog w A R s h => by obtain ⟨hp, g, d, tk, os⟩ := s; obtain ⟨f1, h⟩ := h; unfold NotOf at f1; wp_walk using f1; exact ⟨_, rfl, h⟩
theorem tuple_ne_ins (l x : Addr) : Meets (Builtin.«tuple.__ne__» ⟨[.ref l, .ref x], []⟩) (fun _ R s => NotOf x "tuple" s ∧ R (.ok (.ret .notImplemented)) s) :=
  .of_wp fun prog w A R s h => by obtain ⟨hp, g, d, tk, os⟩ := s; obtain ⟨f1, h⟩ := h; unfold NotOf at f1; wp_walk using f1; exact ⟨_, rfl, h⟩
/-- None, a number, a string, a list or a tuple -/
def Kind (H : Hp) (z : V) : Prop := z = .non ∨ (∃ i, z = .int i) ∨ (∃ t, z = .str t) ∨ (∃ a xs, z = .ref a ∧ H a = some (.lst xs)) ∨ (∃ a xs, z = .ref a ∧ H a = some (.tup xs))
/-- u, of the type T, declines x -/
structure Decl (s : Shared) (K : Frag) (C : Addr) (x : Addr) (u : Value) (T : String) : Prop where
  ty : s.TypeIs u T
  sub : subIn K (.type T) (.ref C) = some false
  mro : mroIn K C (.type T) = some false
  eq : ∀ (prog : Program) (w : World) (A : Around) (Q : Option Value → Shared → Prop) (E : Value → Shared → Prop), Q none s → wpAny (model prog w) A (tryCompare u "__eq__" (.ref x)) Q E s
  ne : ∀ (prog : Program) (w : World) (A : Around) (Q : Option Value → Shared → Prop) (E : Value → Shared → Prop), Q none s → wpAny (model prog w) A (tryCompare u "__ne__" (.ref x)) Q E s
theorem sub_builtin {K : Frag} {C : Addr} {n : String} {ms : List String} (e : fastBuiltinMro n = some (ms.map Value.type)) : subIn K (.type n) (.ref C) = some false := by
  show (fastBuiltinMro n).map (·.contains (.ref C)) = some false
  rw [e]
  show some ((ms.map Value.type).contains (.ref C)) = some false
  congr 1
  induction ms with
  | nil => rfl
  | cons m ms ih =>
    show (Value.ref C == Value.type m || (ms.map Value.type).contains (.ref C)) = false
    rw [Bool.or_eq_false_iff]
    refine ⟨by simp, ?_⟩
    simp
/-- the class is no subclass of these -/
structure Apart (K : Frag) (C : Addr) : Prop where
  non : mroIn K C (.type "NoneType") = some false
  int : mroIn K C (.type "int") = some false
  str : mroIn K C (.type "str") = some false
  lst : mroIn K C (.type "list") = some false
  tup : mroIn K C (.type "tuple") = some false
theorem notOf {K : Frag} {C x dx : Addr} {s : Shared} {n : String} (X : K.In s.heap) (hx : s.heap.get? x = some (instObj C dx)) (hm : mroIn K C (.type n) = some false) : NotOf x n s := fun M A Q E q => by
  unfold isInstance
  refine wpAny_bind (wpAny_typeOf_ref hx ?_)
  exact (looks_mroIn X hm).here q
theorem kind_decl {P : Program} {w : World} {H : Hp} {s : Shared} {K : Frag} {C x dx : Addr} {z : V} {u : Value} (hok : HOk P w H s.heap) (X : K.In s.heap) (hx : s.heap.get? x = some (instObj C dx)) (ap : Apart K C) (hz : Kind H z) (r : RelV z u) : ∃ T, Decl s K C x u T := by
  rcases hz with rfl | ⟨i, rfl⟩ | ⟨t, rfl⟩ | ⟨a, xs, rfl, e⟩ | ⟨a, xs, rfl, e⟩
  · obtain rfl : u = Value.none := r
    exact ⟨"NoneType", rfl, sub_builtin (ms := ["NoneType", "object"]) (by decide +kernel), ap.non,
      fun prog w A Q E q => wpAny_tryCompare_declines (show s.TypeIs .none "NoneType" from rfl) F.slot_NoneType_eq (call_gives F.slot_NoneType_eq rfl F.entry_NoneType_eq (F.args_NoneType_eq_2 _ _) (none_eq_ins x) ⟨rfl, q⟩),
      fun prog w A Q E q => wpAny_tryCompare_declines (show s.TypeIs .none "NoneType" from rfl) F.slot_NoneType_ne (call_gives F.slot_NoneType_ne rfl F.entry_NoneType_ne (F.args_NoneType_ne_2 _ _) (none_ne_ins x) ⟨rfl, q⟩)⟩
  · obtain ⟨t, rfl⟩ := r
    exact ⟨"int", rfl, sub_builtin (ms := ["int", "object"]) (by decide +kernel), ap.int,
      fun prog w A Q E q => wpAny_tryCompare_declines (show s.TypeIs (.int i t) "int" from rfl) F.slot_int_eq (call_meets F.slot_int_eq rfl F.entry_int_eq (F.args_int_eq_2 _ _) (int_eq_ins i t x C dx) ⟨hx, rfl, q⟩),
      fun prog w A Q E q => wpAny_tryCompare_declines (show s.TypeIs (.int i t) "int" from rfl) F.slot_int_ne (call_meets F.slot_int_ne rfl F.entry_int_ne (F.args_int_ne_2 _ _) (int_ne_ins i t x C dx) ⟨hx, rfl, q⟩)⟩
  · obtain ⟨k, rfl⟩ := r
    exact ⟨"str", rfl, sub_builtin (ms := ["str", "object"]) (by decide +kernel), ap.str,
      fun prog w A Q E q => wpAny_tryCompare_declines (show s.TypeIs (.str t k) "str" from rfl) F.slot_str_eq (call_meets F.slot_str_eq rfl F.entry_str_eq (F.args_str_eq_2 _ _) (str_eq_ins t k x C dx) ⟨hx, rfl, q⟩),
      fun prog w A Q E q => wpAny_tryCompare_declines (show s.TypeIs (.str t k) "str" from rfl) F.slot_str_ne (call_meets F.slot_str_ne rfl F.entry_str_ne (F.args_str_ne_2 _ _) (str_ne_ins t k x C dx) ⟨hx, rfl, q⟩)⟩
  · obtain rfl : u = Value.ref a := r
    obtain ⟨_, its, n, _, ho⟩ := (show ObjOk P w H s.heap a (.lst xs) from hok a _ e)
    exact ⟨"list", ⟨_, ho, rfl⟩, sub_builtin (ms := ["list", "object"]) (by decide +kernel), ap.lst,
      fun prog w A Q E q => wpAny_tryCompare_declines (show s.TypeIs (.ref a) "list" from ⟨_, ho, rfl⟩) F.slot_list_eq (call_meets F.slot_list_eq ⟨_, ho, rfl⟩ F.entry_list_eq (F.args_list_eq_2 _ _) (list_eq_ins a x) ⟨notOf X hx ap.lst, rfl, q⟩),
      fun prog w A Q E q => wpAny_tryCompare_declines (show s.TypeIs (.ref a) "list" from ⟨_, ho, rfl⟩) F.slot_list_ne (call_meets F.slot_list_ne ⟨_, ho, rfl⟩ F.entry_list_ne (F.args_list_ne_2 _ _) (list_ne_ins a x) ⟨notOf X hx ap.lst, rfl, q⟩)⟩
  · obtain rfl : u = Value.ref a := r
    obtain ⟨_, its, _, ho⟩ := (show ObjOk P w H s.heap a (.tup xs) from hok a _ e)
    have ht : s.TypeIs (.ref a) "tuple" := by
      obtain ⟨o, h1, h2, _⟩ := ho
      exact ⟨o, h1, h2⟩
    exact ⟨"tuple", ht, sub_builtin (ms := ["tuple", "object"]) (by decide +kernel), ap.tup,
      fun prog w A Q E q => wpAny_tryCompare_declines ht F.slot_tuple_eq (call_meets F.slot_tuple_eq ht F.entry_tuple_eq (F.args_tuple_eq_2 _ _) (tuple_eq_ins a x) ⟨notOf X hx ap.tup, rfl, q⟩),
      fun prog w A Q E q => wpAny_tryCompare_declines ht F.slot_tuple_ne (call_meets F.slot_tuple_ne ht F.entry_tuple_ne (F.args_tuple_ne_2 _ _) (tuple_ne_ins a x) ⟨notOf X hx ap.tup, rfl, q⟩)⟩

section
variable {prog : Program} {w : World} {A : Around} {E : Value → Shared → Prop} {s : Shared} {K : Frag} {x C L f dx : Addr} {h₀ : Heap} {m : Str → Option Value} {u : Value} {T : String} {od : Option Obj}
theorem type_ne (C : Addr) (T : String) : (Value.type T != Value.ref C) = true := by simp
theorem ne_type (C : Addr) (T : String) : (Value.ref C != Value.type T) = true := by simp
theorem notFirst_ty (h : subIn K (.type T) (.ref C) = some false) : notFirst K C (.type T) = true := by
  unfold notFirst
  rw [h]
  simp
/-- u == x, the other one's __eq__ asked -/
theorem eq_refl_K {Q : Value → Shared → Prop} (hu : A.units < cLine) (X : K.In s.heap) (hx : s.heap.get? x = some (instObj C dx)) (I : InstAt s.heap x (instObj C dx) C od) (D : Decl s K C x u T)
    (hs : findIn K (.ref C) "__eq__" = some (some (.ref f))) (hf : isFn K (.ref f) = true)
    (h : wpAny (model prog w) A (call (.ref f) [.ref x, u]) (PySem.W.CmpBack Q) E s) : wpAny (model prog w) A (richCompare .Eq u (.ref x)) Q E s := by
  have two : wpAny (model prog w) A (tryCompare (.ref x) "__eq__" u) (fun r s' => ∃ v, r = some v ∧ Q v s') E s := by
    unfold tryCompare
    refine wpAny_bind (ifBound_K X I hs hf (wpAny_mono h (fun v s' hv => ?_) fun _ _ e => e))
    cases v <;> first | exact hv.elim | exact wpAny_pure ⟨_, rfl, hv⟩
  simp only [richCompare, cmpInfo_Eq, D.ty.oneThing_none]
  refine wpAny_holding (wpAny_bind (wpAny_cRoomFor hu ?_))
  refine wpAny_bind (wpAny_typeOf D.ty (wpAny_bind (wpAny_typeOf_ref hx ?_)))
  rw [show (instObj C dx).cls = .ref C from rfl, type_ne]
  simp only [if_true]
  refine wpAny_bind ((looks_mroIn X D.mro).here ?_)
  simp only [Bool.false_eq_true, if_false, Bool.not_false, if_true]
  refine wpAny_bind (m := tryCompare u _ (.ref x)) (D.eq prog w A _ E ?_)
  refine wpAny_bind (m := tryCompare (.ref x) _ u) (wpAny_mono two (fun r s' z => ?_) fun _ _ e => e)
  obtain ⟨v, rfl, hq⟩ := z
  exact wpAny_pure hq
/-- object.__ne__ of x and any value -/
theorem ne_entry {Q : Fin → Shared → Prop} (hu : A.units < cLine) (X : K.In s.heap) (I : InstAt s.heap x (instObj C dx) C od)
    (hs : findIn K (.ref C) "__eq__" = some (some (.ref f))) (hf : isFn K (.ref f) = true)
    (hcall : wpAny (model prog w) A (call (.ref f) [.ref x, u]) (fun v s' => ∃ b, v = .bool b ∧ Q (.done (.ret (.bool (!b)))) s') E s) :
    wpAny (model prog w) A (Builtin.«object.__ne__» ⟨[.ref x, u], []⟩) Q E s := by
  unfold Builtin.«object.__ne__»
  repeat (first
    | with_reducible refine wpAny_cRoomFor hu ?_
    | (refine wpAny_bind (m := callSpecialIfBound? (.ref x) (Str.ofString "__eq__") [u])
        (ifBound_K X I hs hf (wpAny_mono hcall (fun v s' hv => by
          obtain ⟨b, rfl, hq⟩ := hv
          repeat (first | exact hq | exact wpAny_pure hq | exact wpAny_truthy_bool hq | (refine wpAny_bind (m := truthy (.bool _)) (wpAny_truthy_bool ?_)) | wp_step)) fun _ _ e => e)))
    | wp_step)
theorem try_ne {Q : Option Value → Shared → Prop} (hu : A.in1.units < cLine) (X : K.In s.heap) (I : InstAt s.heap x (instObj C dx) C od)
    (hs : findIn K (.ref C) "__eq__" = some (some (.ref f))) (hf : isFn K (.ref f) = true) (hm : mroIn K C (.type "object") = some true) (hn : findIn K (.ref C) "__ne__" = some (some (.builtin "object.__ne__")))
    (hcall : wpAny (model prog w) A.in1 (call (.ref f) [.ref x, u]) (fun v s' => ∃ b, v = .bool b ∧ Q (some (.bool (!b))) s') E s) :
    wpAny (model prog w) A (tryCompare (.ref x) "__ne__" u) Q E s := by
  unfold tryCompare
  refine wpAny_bind ?_
  simp only [callSpecialIfBound?, bindSpecialIfBound?]
  refine wpAny_holding (wpAny_bind (wpAny_bind (wpAny_bind (I.type.here ((looks_findIn X hn).here ?_)))))
  refine wpAny_bind (wpAny_askSetting (wpAny_ite ?_))
  have one : wpAny (model prog w) A (call (.builtin "object.__ne__") [.ref x, u]) (fun v s' => ∃ b, v = .bool b ∧ Q (some (.bool b)) s') E s :=
    wpAny_call (codeAny_call_builtin F.cmp_object.ne.plain F.cmpEntry_ne (check_slot F.cmpKind_ne F.cmpSplit_ne (I.type.andThen (looks_mroIn X hm)) (F.cmpArgs_ne _ _)
      (ne_entry (A := A.in1) hu X I hs hf (wpAny_mono hcall (fun v s' hv => by
        obtain ⟨b, rfl, hq⟩ := hv
        exact ⟨b, rfl, _, rfl, hq⟩) fun _ _ e => e))))
  have fin : wpAny (model prog w) A (call (.builtin "object.__ne__") ([.ref x] ++ [u]) >>= fun v => pure (some v)) (fun r s' => wpAny (model prog w) A (match r with
      | some .notImplemented | none => pure none
      | some v => pure (some v)) Q E s') E s := wpAny_bind (wpAny_mono one (fun v s' h' => by
    obtain ⟨b, rfl, hq⟩ := h'
    exact wpAny_pure (wpAny_pure hq)) fun _ _ h' => h')
  split
  · exact wpAny_bind (wpAny_of_eq (F.cmp_object.ne.bind _) (wpAny_pure (by exact fin)))
  · exact wpAny_tryCatch (wpAny_bind (wpAny_of_eq (F.cmp_object.ne.bind _) (wpAny_pure (by exact fin))))
/-- x != u -/
theorem ne_K {Q : Value → Shared → Prop} {tb : Value} (hu : A.units < cLine) (hu1 : A.in1.units < cLine) (X : K.In s.heap) (I : InstAt s.heap x (instObj C dx) C od) (hb : Looks (model prog w) s.heap (typeOf u) tb) (hn1 : notFirst K C tb = true)
    (hs : findIn K (.ref C) "__eq__" = some (some (.ref f))) (hf : isFn K (.ref f) = true) (hm : mroIn K C (.type "object") = some true) (hn : findIn K (.ref C) "__ne__" = some (some (.builtin "object.__ne__")))
    (hcall : wpAny (model prog w) A.in1 (call (.ref f) [.ref x, u]) (fun v s' => ∃ b, v = .bool b ∧ Q (.bool (!b)) s') E s) :
    wpAny (model prog w) A (richCompare .NotEq (.ref x) u) Q E s := by
  have one : wpAny (model prog w) A (tryCompare (.ref x) "__ne__" u) (fun r s' => ∃ v, r = some v ∧ Q v s') E s :=
    try_ne hu1 X I hs hf hm hn (wpAny_mono hcall (fun v s' hv => by
      obtain ⟨b, rfl, hq⟩ := hv
      exact ⟨b, rfl, _, rfl, hq⟩) fun _ _ e => e)
  simp only [richCompare, cmpInfo_NotEq, oneThing_ref]
  refine wpAny_holding (wpAny_bind (wpAny_cRoomFor hu ?_))
  refine wpAny_bind (I.type.here (wpAny_bind (hb.here ?_)))
  split
  · rename_i q
    have e : subIn K tb (.ref C) = some false := by
      rcases Bool.or_eq_true_iff.mp hn1 with e | e
      · rw [beq_iff_eq.mp e] at q; simp at q
      · exact beq_iff_eq.mp e
    refine wpAny_bind ((looks_subIn X e).here ?_)
    simp only [Bool.false_eq_true, if_false]
    refine wpAny_bind (m := tryCompare (.ref x) _ u) (wpAny_mono one (fun r s' z => ?_) fun _ _ e => e)
    obtain ⟨v, rfl, hq⟩ := z
    exact wpAny_pure hq
  · refine wpAny_bind (wpAny_pure ?_)
    simp only [Bool.false_eq_true, if_false]
    refine wpAny_bind (m := tryCompare (.ref x) _ u) (wpAny_mono one (fun r s' z => ?_) fun _ _ e => e)
    obtain ⟨v, rfl, hq⟩ := z
    exact wpAny_pure hq
/-- u != x -/
theorem ne_refl_K {Q : Value → Shared → Prop} (hu : A.units < cLine) (hu1 : A.in1.units < cLine) (X : K.In s.heap) (hx : s.heap.get? x = some (instObj C dx)) (I : InstAt s.heap x (instObj C dx) C od) (D : Decl s K C x u T)
    (hs : findIn K (.ref C) "__eq__" = some (some (.ref f))) (hf : isFn K (.ref f) = true) (hm : mroIn K C (.type "object") = some true) (hn : findIn K (.ref C) "__ne__" = some (some (.builtin "object.__ne__")))
    (hcall : wpAny (model prog w) A.in1 (call (.ref f) [.ref x, u]) (fun v s' => ∃ b, v = .bool b ∧ Q (.bool (!b)) s') E s) :
    wpAny (model prog w) A (richCompare .NotEq u (.ref x)) Q E s := by
  have two : wpAny (model prog w) A (tryCompare (.ref x) "__ne__" u) (fun r s' => ∃ v, r = some v ∧ Q v s') E s :=
    try_ne hu1 X I hs hf hm hn (wpAny_mono hcall (fun v s' hv => by
      obtain ⟨b, rfl, hq⟩ := hv
      exact ⟨b, rfl, _, rfl, hq⟩) fun _ _ e => e)
  simp only [richCompare, cmpInfo_NotEq, D.ty.oneThing_none]
  refine wpAny_holding (wpAny_bind (wpAny_cRoomFor hu ?_))
  refine wpAny_bind (wpAny_typeOf D.ty (wpAny_bind (wpAny_typeOf_ref hx ?_)))
  rw [show (instObj C dx).cls = .ref C from rfl, type_ne]
  simp only [if_true]
  refine wpAny_bind ((looks_mroIn X D.mro).here ?_)
  simp only [Bool.false_eq_true, if_false, Bool.not_false, if_true]
  refine wpAny_bind (m := tryCompare u _ (.ref x)) (D.ne prog w A _ E ?_)
  refine wpAny_bind (m := tryCompare (.ref x) _ u) (wpAny_mono two (fun r s' z => ?_) fun _ _ e => e)
  obtain ⟨v, rfl, hq⟩ := z
  exact wpAny_pure hq
end
end
theorem looks_ty {M : Model} {s : Shared} {u : Value} {T : String} (h : s.TypeIs u T) : PySem.W.Looks M s.heap (typeOf u) (.type T) := fun A Q E s' k q => by
  refine wpAny_typeOf (T := T) ?_ q
  cases u <;> first | exact h | (obtain ⟨o, h1, h2⟩ := h; exact ⟨o, k _ _ h1, h2⟩)
/-- what of the text the class must have -/
structure CmpC (K : PySem.W.Frag) (C : Addr) : Prop where
  ap : Apart K C
  ob : PySem.W.mroIn K C (.type "object") = some true
  ne : PySem.W.findIn K (.ref C) "__ne__" = some (some (.builtin "object.__ne__"))
def CmpTwo (C : Addr) (x y : V) (H : Hp) (a : Addr) (z : V) : Prop := (∃ dx fs, H a = some (.ins C dx fs)) ∧ ((x = .ref a ∧ y = z ∧ (Kind H z ∨ ∃ b dy gs, z = .ref b ∧ H b = some (.ins C dy gs))) ∨ (x = z ∧ y = .ref a ∧ Kind H z))
def rEqAny (C : Addr) (sp : Sp) : R2 := fun x y H Q => ∃ a z, CmpTwo C x y H a z ∧ sp [.ref a, z] H Q E0
def rNeAny (C : Addr) (sp : Sp) : R2 := fun x y H Q => ∃ a z, CmpTwo C x y H a z ∧ sp [.ref a, z] H (fun r H' => ∃ b, r = .bl b ∧ Q (.bl (!b)) H') E0
theorem op_eqAny {X : Cx} {k : Nat} {C f : Addr} {fd : FuncData} {ps : List Str} {sp : Sp} (c : CmpC X.K C) (m : Meth X.K C "__eq__" f) (F : FnOk X.prog X.w X.K X.mg X.base CX0 k f fd ps sp) (hr : Room k X.A) (hb : Binds X.K fd ps []) : OpR X (compareOp .Eq) (rEqAny C sp) := by
  intro pins s σ H x y v u Q I rx ry h
  obtain ⟨a, z, ⟨⟨dx, fs, ha⟩, h2⟩, h⟩ := h
  obtain ⟨mA, J, _⟩ := ins_get I.hok ha
  have hx := J.obj
  obtain ⟨od, J, _⟩ := J.look
  obtain ⟨m', hF⟩ := I.fr
  have hl : ([Value.ref a, v] ++ ([] : List Value)).length = ps.length := by
    rw [← F.len _ _ _ _ h]
    rfl
  have go : ∀ t, RelV z t → wpAny (model X.prog X.w) X.A (call (.ref f) [.ref a, t]) (PySem.W.CmpBack (EP X pins σ Q)) X.xe s := fun t rt =>
    wpAny_call (codeAny_mono (F.run X.A X.stack s H ⟨[.ref a, t], []⟩ [.ref a, t] [.ref a, z] _ E0 hr I.env0 (hb s [.ref a, t] I.kIn hl) (.cons rfl (.cons rt .nil)) h) fun r s' hq => by
      cases r with
      | error er => exact False.elim hq
      | ok fl =>
        cases fl with
        | ret w =>
          obtain ⟨z', H', I', rz, qz⟩ := I.after hq
          exact SlX.cmpback rz ⟨z', H', I', rz, qz⟩
        | next => exact False.elim hq
        | brk => exact False.elim hq
        | cont => exact False.elim hq)
  rcases h2 with ⟨rfl, rfl, h2⟩ | ⟨rfl, rfl, h2⟩
  · obtain rfl : v = Value.ref a := rx
    show wpAny (model X.prog X.w) X.A (richCompare .Eq (.ref a) u) (EP X pins σ Q) X.xe s
    rcases h2 with h2 | ⟨b, dy, gs, rfl, hb'⟩
    · obtain ⟨T, D⟩ := kind_decl I.hok I.kIn hx c.ap h2 ry
      exact PySem.W.cmp_K (op := .Eq) (tb := .type T) hr.units0 hF I.ok.mod.kin J (looks_ty D.ty) (notFirst_ty D.sub) m.at_ m.fn (go u ry)
    · obtain rfl : u = Value.ref b := ry
      obtain ⟨mB, J', _⟩ := ins_get I.hok hb'
      obtain ⟨od', J', _⟩ := J'.look
      exact PySem.W.cmp_K (op := .Eq) (tb := .ref C) hr.units0 hF I.ok.mod.kin J J'.type (by simp [PySem.W.notFirst]) m.at_ m.fn (go _ rfl)
  · obtain rfl : u = Value.ref a := ry
    obtain ⟨T, D⟩ := kind_decl I.hok I.kIn hx c.ap h2 rx
    exact eq_refl_K hr.units0 I.kIn hx J D m.at_ m.fn (go v rx)
theorem op_neAny {X : Cx} {k : Nat} {C f : Addr} {fd : FuncData} {ps : List Str} {sp : Sp} (c : CmpC X.K C) (m : Meth X.K C "__eq__" f) (F : FnOk X.prog X.w X.K X.mg X.base CX0 k f fd ps sp) (hr : Room (k + 1) X.A) (hb : Binds X.K fd ps []) : OpR X (compareOp .NotEq) (rNeAny C sp) := by
  intro pins s σ H x y v u Q I rx ry h
  obtain ⟨a, z, ⟨⟨dx, fs, ha⟩, h2⟩, h⟩ := h
  obtain ⟨mA, J, _⟩ := ins_get I.hok ha
  have hx := J.obj
  obtain ⟨od, J, _⟩ := J.look
  have hl : ([Value.ref a, v] ++ ([] : List Value)).length = ps.length := by
    rw [← F.len _ _ _ _ h]
    rfl
  have go : ∀ t, RelV z t → wpAny (model X.prog X.w) X.A.in1 (call (.ref f) [.ref a, t]) (fun v s' => ∃ b, v = .bool b ∧ EP X pins σ Q (.bool (!b)) s') X.xe s := fun t rt =>
    wpAny_call (codeAny_mono (F.run X.A.in1 X.stack s H ⟨[.ref a, t], []⟩ [.ref a, t] [.ref a, z] _ E0 hr.in1 I.env0.in1 (hb s [.ref a, t] I.kIn hl) (.cons rfl (.cons rt .nil)) h) fun r s' hq => by
      cases r with
      | error er => exact False.elim hq
      | ok fl =>
        cases fl with
        | ret w =>
          obtain ⟨z', H', I', rz, b, rfl, qz⟩ := I.after hq
          obtain rfl : w = Value.bool b := rz
          exact ⟨b, rfl, .bl (!b), H', I', rfl, qz⟩
        | next => exact False.elim hq
        | brk => exact False.elim hq
        | cont => exact False.elim hq)
  rcases h2 with ⟨rfl, rfl, h2⟩ | ⟨rfl, rfl, h2⟩
  · obtain rfl : v = Value.ref a := rx
    show wpAny (model X.prog X.w) X.A (richCompare .NotEq (.ref a) u) (EP X pins σ Q) X.xe s
    rcases h2 with h2 | ⟨b, dy, gs, rfl, hb'⟩
    · obtain ⟨T, D⟩ := kind_decl I.hok I.kIn hx c.ap h2 ry
      exact ne_K (tb := .type T) hr.units0 hr.in1.units0 I.kIn J (looks_ty D.ty) (notFirst_ty D.sub) m.at_ m.fn c.ob c.ne (go u ry)
    · obtain rfl : u = Value.ref b := ry
      obtain ⟨mB, J', _⟩ := ins_get I.hok hb'
      obtain ⟨od', J', _⟩ := J'.look
      exact ne_K (tb := .ref C) hr.units0 hr.in1.units0 I.kIn J J'.type (by simp [PySem.W.notFirst]) m.at_ m.fn c.ob c.ne (go _ rfl)
  · obtain rfl : u = Value.ref a := ry
    obtain ⟨T, D⟩ := kind_decl I.hok I.kIn hx c.ap h2 rx
    exact ne_refl_K hr.units0 hr.in1.units0 I.kIn hx J D m.at_ m.fn c.ob c.ne (go v rx)
/-! ### over the items of a list that stands, for any step -/
theorem over_list {K : PySem.W.Frag} {p : Addr} {ys : List V} {Z : Hp} {step : V → Hp → (Hp → Prop) → Prop} {Fin : Hp → Prop} (J : Nat → Hp → Prop) (start : J 0 Z) (stands : ∀ n G, n ≤ ys.length → J n G → SqL K G p ys)
    (each : ∀ n y G, ys[n]? = some y → J n G → step y G (J (n + 1))) (done : ∀ G, J ys.length G → Fin G) :
    ∃ W : Nat → Nat → Hp → Prop, (∃ m, W 0 m Z) ∧ ∀ n m G, W n m G →
      ((Itl K p).stop n G ∧ Fin G) ∨ ((Itl K p).go n G ∧ ∃ Nx : Hp → Prop, (∀ G', Nx G' → ∃ m', m' < m ∧ W (n + 1) m' G') ∧ ∀ y G', (Itl K p).yld n G y G' → step y G' Nx) := by
  refine ⟨fun n m G => m = ys.length - n ∧ n ≤ ys.length ∧ J n G, ⟨ys.length, rfl, Nat.zero_le _, start⟩, ?_⟩
  rintro n m G ⟨rfl, le, j⟩
  have s := stands n G le j
  rcases Nat.lt_or_ge n ys.length with lt | ge
  · refine .inr ⟨⟨ys, ys[n], s, List.getElem?_eq_getElem lt⟩, J (n + 1), fun G' j' => ⟨ys.length - (n + 1), by omega, rfl, lt, j'⟩, fun y G' yl => ?_⟩
    obtain ⟨rfl, at_⟩ := yl
    exact each n y _ (at_ ys s) j
  · obtain rfl : n = ys.length := by omega
    exact .inl ⟨⟨ys, s, Nat.le_refl _⟩, done G j⟩
/-! ### walks and joins within a comprehension: K given -/
theorem pi_listK {X : Cx} {K : PySem.W.Frag} (hK : X.K = K) {tg l : Expr} {tl : TE} (hl : PE X l tl) : PI X tg l (iList K tl) := by
  subst hK
  exact pi_list hl
theorem pi_tupK {X : Cx} {K : PySem.W.Frag} (hK : X.K = K) {tg l : Expr} {tl : TE} (hl : PE X l tl) : PI X tg l (iTup K tl) := by
  subst hK
  exact pi_tup hl
theorem pi_enumK {X : Cx} {K : PySem.W.Frag} (hK : X.K = K) {e : Expr} {ta : TA} {p pos tpos : Pos} {elts : List Expr} {kk : Nat} (hg : Gl X "enumerate") (hm : X.mg "enumerate" = none) (ha : PA X [e] ta) (hs : starEach [e] X.env = [(false, eval e X.env)] := by rfl) :
    PI X (.Tuple elts kk tpos) (.Call (.Name "enumerate" p) [e] [] pos) (iEnum K ta) := by
  subst hK
  exact pi_enum hg hm ha hs
theorem pi_zipK {X : Cx} {K : PySem.W.Frag} (hK : X.K = K) {e e2 : Expr} {ta : TA} {p pos tpos : Pos} {elts : List Expr} {kk : Nat} (hg : Gl X "zip") (hm : X.mg "zip" = none) (ha : PA X [e, e2] ta)
    (hs : starEach [e, e2] X.env = (false, eval e X.env) :: starEach [e2] X.env := by rfl) (hpl : (backTo pos (starEach [e2] X.env)).any (·.1) = false := by rfl) :
    PI X (.Tuple elts kk tpos) (.Call (.Name "zip" p) [e, e2] [] pos) (iZip K ta) := by
  subst hK
  exact pi_zip hg hm ha hs hpl
def tJoin (K : PySem.W.Frag) (to te : TE) : TE := tM1 (fun x xs H Q => ∃ a p, ∃ ys : List Str, x = .str a ∧ xs = [.ref p] ∧ (SqL K H p (ys.map V.str) ∨ SqT K H p (ys.map V.str)) ∧
      (ys.map (·.length)).sum + ys.length * a.length ≤ 16777216 ∧ Q (.str (Txt.join a ys)) H) to te
theorem pe_joinK {X : Cx} {K : PySem.W.Frag} (hK : X.K = K) {o e : Expr} {to te : TE} {apos pos : Pos} (ho : PE X o to) (he : PE X e te) (hs : starEach [e] X.env = [(false, eval e X.env)] := by rfl)
    (hbase : attributeBase o "join" X.env (eval o X.env) = eval o X.env := by rfl) (hline : (apos.endLine == pos.line) = true := by rfl) :
    PE X (.Call (.Attribute o "join" apos) [e] [] pos) (tJoin K to te) := by
  subst hK
  exact pe_join ho he hs hbase hline
/-! ### heaps -/
theorem same_upd {H : Hp} {p : Addr} {o : HO} (h : H p = none) : Same H (upd H p o) := fun b x e => by
  rw [upd_ne (ne_of_none e h)]
  exact e
theorem Same.tup {K : PySem.W.Frag} {H H' : Hp} {a : Addr} {xs : List V} (e : Same H H') (h : SqT K H a xs) : SqT K H' a xs := by
  rcases h with (h | ⟨o, h⟩) | h
  · exact .inl (.inl (e _ _ h))
  · exact .inl (.inr ⟨o, e _ _ h⟩)
  · exact .inr h
theorem ixN_nat {n j : Nat} (hj : j < n) : ixN n (j : Int) = some j := by
  unfold ixN
  rw [if_pos (by omega), if_pos (by omega), Int.toNat_natCast]
theorem iteD {c A B : Prop} [Decidable c] (hc : c) (h : A) : if decide c = true then A else B := by
  rw [decide_eq_true hc]
  exact iteT h
theorem iteND {c A B : Prop} [Decidable c] (hc : ¬ c) (h : B) : if decide c = true then A else B := by
  rw [decide_eq_false hc]
  exact iteF h
theorem iteB {b : Bool} {A B : Prop} (hb : b = true) (h : A) : if b = true then A else B := by
  rw [hb]
  exact iteT h
theorem iteNB {b : Bool} {A B : Prop} (hb : b = false) (h : B) : if b = true then A else B := by
  rw [hb]
  exact iteF h
/-! ### walks: a text in a comprehension, enumerate -/
theorem lc_str {x : Str} {g : TG} {tt : TT} {te : TE} {vs : List Nat} {σ : L2.St} {H1 : Hp} {D : Addr} {Qd : Hp → Prop} (Pv : Nat → Hp → Prop) (h0 : Pv 0 (upd H1 D (.lst [])))
    (hs : ∀ i c H, x.cps[i]? = some c → Pv i H → g (.str ⟨#[c]⟩) (wipe σ vs) H fun σ2 H2 => wipe σ2 vs = wipe σ vs ∧ tt σ2 H2 fun b H3 =>
      if b = true then te σ2 H3 fun y H4 => ∃ acc, H4 D = some (.lst acc) ∧ acc.length < sizeLine ∧ Pv (i + 1) (upd H4 D (.lst (acc ++ [y]))) else Pv (i + 1) H3) (hd : ∀ H, Pv x.cps.size H → Qd H) :
    ∃ W : Nat → Nat → Hp → Prop, (∃ m, W 0 m (upd H1 D (.lst []))) ∧ ∀ i m H, W i m H →
      ((Its x).stop i H ∧ Qd H) ∨ ((Its x).go i H ∧ ∃ Nx : Hp → Prop, (∀ H', Nx H' → ∃ m', m' < m ∧ W (i + 1) m' H') ∧ ∀ v H', (Its x).yld i H v H' → g v (wipe σ vs) H' fun σ2 H2 => wipe σ2 vs = wipe σ vs ∧ tt σ2 H2 fun b H3 =>
        if b = true then te σ2 H3 fun y H4 => ∃ acc, H4 D = some (.lst acc) ∧ acc.length < sizeLine ∧ Nx (upd H4 D (.lst (acc ++ [y]))) else Nx H3) := by
  refine ⟨fun i m H => m = x.cps.size - i ∧ i ≤ x.cps.size ∧ Pv i H, ⟨_, rfl, Nat.zero_le _, h0⟩, ?_⟩
  rintro i m H ⟨rfl, hi, p⟩
  by_cases hlt : i < x.cps.size
  · refine .inr ⟨hlt, Pv (i + 1), fun H' p' => ⟨x.cps.size - (i + 1), by omega, rfl, hlt, p'⟩, fun v H' y => ?_⟩
    obtain ⟨e, c, hc, e2⟩ := y
    subst e e2
    exact hs i c _ hc p
  · have e : i = x.cps.size := by omega
    subst e
    exact .inl ⟨Nat.le_refl _, hd H p⟩
theorem for_enum {K : PySem.W.Frag} {a : Addr} {xs : List V} {g : TG} {tb : TS} {D : Ends} {σ : L2.St} {H : Hp} (Pv : Nat → L2.St → Hp → Prop) (h0 : Pv 0 σ H) (hl : ∀ i σ H, i ≤ xs.length → Pv i σ H → SqL K H a xs)
    (hs : ∀ i x σ H T, xs[i]? = some x → Pv i σ H → H T = none → g (.ref T) σ (upd H T (.tup [.int (i : Nat), x])) fun σ2 H2 => tb { D with nx := Pv (i + 1), ct := Pv (i + 1), bk := D.nx } σ2 H2) (hd : ∀ σ H, Pv xs.length σ H → D.nx σ H) :
    ∃ W : Nat → Nat → L2.St → Hp → Prop, (∃ m, W 0 m σ H) ∧ ∀ i m σ H, W i m σ H →
      ((Ite K a).stop i H ∧ D.nx σ H) ∨ ((Ite K a).go i H ∧ ∃ N : L2.St → Hp → Prop, (∀ σ' H', N σ' H' → ∃ m', m' < m ∧ W (i + 1) m' σ' H') ∧ ∀ x H', (Ite K a).yld i H x H' → g x σ H' fun σ2 H2 => tb { D with nx := N, ct := N, bk := D.nx } σ2 H2) := by
  refine ⟨fun i m σ H => m = xs.length - i ∧ i ≤ xs.length ∧ Pv i σ H, ⟨_, rfl, Nat.zero_le _, h0⟩, ?_⟩
  rintro i m σ H ⟨rfl, hi, p⟩
  have q := hl i σ H hi p
  by_cases hlt : i < xs.length
  · refine .inr ⟨⟨xs, xs[i], q, List.getElem?_eq_getElem hlt⟩, Pv (i + 1), fun σ' H' p' => ⟨xs.length - (i + 1), by omega, rfl, hlt, p'⟩, fun v H' y => ?_⟩
    obtain ⟨T, x, e1, hT, e2, hx⟩ := y
    subst e1 e2
    exact hs i x σ H T (hx xs q) p hT
  · have e : i = xs.length := by omega
    subst e
    exact .inl ⟨⟨xs, q, Nat.le_refl _⟩, hd σ H p⟩
/-! ### texts -/
def Low (z : Str) : Prop := ∀ c ∈ z.cps.toList, 97 ≤ c ∧ c ≤ 122
structure Nm (z : Str) : Prop where
  pos : 1 ≤ z.length
  few : z.length ≤ 8
  low : Low z
theorem len_l (z : Str) : z.length = z.cps.toList.length := by simp [Str.length]
theorem inV_str (z : Str) : ∀ ss : List Str, inV (.str z) (ss.map V.str) = decide (z ∈ ss)
  | [] => rfl
  | a :: r => by
    have ih := inV_str z r
    unfold inV at ih ⊢
    rw [List.map_cons, List.any_cons, ih]
    show ((a == z) || decide (z ∈ r)) = decide (z ∈ a :: r)
    by_cases h : a = z
    · subst h
      simp
    · have h2 : (a == z) = false := beq_eq_false_iff_ne.mpr h
      rw [h2, Bool.false_or]
      by_cases h3 : z ∈ r
      · rw [decide_eq_true h3, decide_eq_true (List.mem_cons_of_mem _ h3)]
      · rw [decide_eq_false h3, decide_eq_false (fun m => by rcases List.mem_cons.mp m with e | e; exact h e.symm; exact h3 e)]
theorem flat_strs : ∀ ss : List Str, (ss.map V.str).all flatV = true
  | [] => rfl
  | _ :: r => by
    rw [List.map_cons, List.all_cons, flat_strs r]
    rfl
theorem cut_take (xs : List V) (i : Nat) : cutV xs none (some (i : Int)) = xs.take i := by
  unfold cutV
  rw [HT.sIx_none, show HT.sIx xs.length xs.length (some (i : Int)) = min i xs.length from HT.sIx_nat _ _ i, List.drop_zero, Nat.sub_zero]
  by_cases h : i ≤ xs.length
  · rw [Nat.min_eq_left h]
  · rw [Nat.min_eq_right (by omega), List.take_of_length_le (Nat.le_refl _), List.take_of_length_le (by omega)]
theorem cut_drop (xs : List V) (i : Nat) : cutV xs (some (i : Int)) none = xs.drop i := by
  unfold cutV
  rw [HT.sIx_none, show HT.sIx xs.length 0 (some (i : Int)) = min i xs.length from HT.sIx_nat _ _ i]
  by_cases h : i ≤ xs.length
  · rw [Nat.min_eq_left h]
    exact List.take_of_length_le (by rw [List.length_drop]; exact Nat.le_refl _)
  · rw [Nat.min_eq_right (by omega), Nat.sub_self, List.take_zero, List.drop_eq_nil_of_le (by omega)]
def six : List Str := ["before", "upto", "same", "apart", "far", "next"]
def two : List Str := ["first", "last"]
/-- a tuple that is a rule of these tasks -/
def RuleOk (ts : List Str) (l : List Str) : Prop :=
  (∃ k x, k ∈ two ∧ x ∈ ts ∧ l = [k, x]) ∨ ∃ k x y, k ∈ six ∧ x ∈ ts ∧ y ∈ ts ∧ x ≠ y ∧ l = [k, x, y]
structure TasksOk (ts : List Str) : Prop where
  ne : ts ≠ []
  nm : ∀ z ∈ ts, Nm z
  nd : ts.Nodup
  few : ts.length ≤ 100
def topS (i : Nat) : Stmt := PySem.Challenge.pw_plandays_k14_whole_books_put_together.main.body.getD i (.Pass ⟨0, 0, 0, 0⟩)
abbrev s_PlanError_init : Stmt := inClass (topS 1) 0
theorem sc_PlanError_init : FnScope ["self", "value"] ["self", "value"] (defScope s_PlanError_init) := ⟨rfl, rfl, rfl, by decide +kernel, rfl, by decide +kernel, by decide +kernel⟩
abbrev s_is_name : Stmt := topS 15
theorem sc_is_name : FnScope ["text", "sign"] ["text"] (defScope s_is_name) := ⟨rfl, rfl, rfl, by decide +kernel, rfl, by decide +kernel, by decide +kernel⟩
abbrev s_check_tasks : Stmt := topS 16
theorem sc_check_tasks : FnScope ["tasks", "seen", "name"] ["tasks"] (defScope s_check_tasks) := ⟨rfl, rfl, rfl, by decide +kernel, rfl, by decide +kernel, by decide +kernel⟩
abbrev s_check_rule : Stmt := topS 17
theorem sc_check_rule : FnScope ["rule", "tasks", "name"] ["rule", "tasks"] (defScope s_check_rule) := ⟨rfl, rfl, rfl, by decide +kernel, rfl, by decide +kernel, by decide +kernel⟩
abbrev s_is_kept : Stmt := topS 18
theorem sc_is_kept : FnScope ["rule", "n", "days", "kind", "day", "later"] ["rule", "n", "days"] (defScope s_is_kept) := ⟨rfl, rfl, rfl, by decide +kernel, rfl, by decide +kernel, by decide +kernel⟩
abbrev s_turned : Stmt := topS 19
theorem sc_turned : FnScope ["rule"] ["rule"] (defScope s_turned) := ⟨rfl, rfl, rfl, by decide +kernel, rfl, by decide +kernel, by decide +kernel⟩
abbrev s_exchanged : Stmt := topS 20
theorem sc_exchanged : FnScope ["rule"] ["rule"] (defScope s_exchanged) := ⟨rfl, rfl, rfl, by decide +kernel, rfl, by decide +kernel, by decide +kernel⟩
abbrev s_Book_init : Stmt := inClass (topS 21) 0
theorem sc_Book_init : FnScope ["self", "tasks", "rules", "rule"] ["self", "tasks", "rules"] (defScope s_Book_init) := ⟨rfl, rfl, rfl, by decide +kernel, rfl, by decide +kernel, by decide +kernel⟩
abbrev s_Book_tasks : Stmt := inClass (topS 21) 1
theorem sc_Book_tasks : FnScope ["self"] ["self"] (defScope s_Book_tasks) := ⟨rfl, rfl, rfl, by decide +kernel, rfl, by decide +kernel, by decide +kernel⟩
abbrev s_Book_rules : Stmt := inClass (topS 21) 2
theorem sc_Book_rules : FnScope ["self"] ["self"] (defScope s_Book_rules) := ⟨rfl, rfl, rfl, by decide +kernel, rfl, by decide +kernel, by decide +kernel⟩
abbrev s_Book_keeps : Stmt := inClass (topS 21) 3
theorem sc_Book_keeps : FnScope ["self", "n", "plan", "days", "day", "rule"] ["self", "n", "plan"] (defScope s_Book_keeps) := ⟨rfl, rfl, rfl, by decide +kernel, rfl, by decide +kernel, by decide +kernel⟩
abbrev s_Book_with_rules : Stmt := inClass (topS 21) 4
theorem sc_Book_with_rules : FnScope ["self", "rules"] ["self", "rules"] (defScope s_Book_with_rules) := ⟨rfl, rfl, rfl, by decide +kernel, rfl, by decide +kernel, by decide +kernel⟩
abbrev s_Book_without : Stmt := inClass (topS 21) 5
theorem sc_Book_without : FnScope ["self", "index"] ["self", "index"] (defScope s_Book_without) := ⟨rfl, rfl, rfl, by decide +kernel, rfl, by decide +kernel, by decide +kernel⟩
abbrev s_Book_beside : Stmt := inClass (topS 21) 6
theorem sc_Book_beside : FnScope ["self", "other", "name"] ["self", "other"] (defScope s_Book_beside) := ⟨rfl, rfl, rfl, by decide +kernel, rfl, by decide +kernel, by decide +kernel⟩
abbrev s_Book_then : Stmt := inClass (topS 21) 7
theorem sc_Book_then : FnScope ["self", "other", "both", "one", "two"] ["self", "other"] (defScope s_Book_then) := ⟨rfl, rfl, rfl, by decide +kernel, rfl, by decide +kernel, by decide +kernel⟩
abbrev s_Book_turned : Stmt := inClass (topS 21) 8
theorem sc_Book_turned : FnScope ["self", "rule"] ["self"] (defScope s_Book_turned) := ⟨rfl, rfl, rfl, by decide +kernel, rfl, by decide +kernel, by decide +kernel⟩
abbrev s_Book_exchanged : Stmt := inClass (topS 21) 9
theorem sc_Book_exchanged : FnScope ["self", "rule"] ["self"] (defScope s_Book_exchanged) := ⟨rfl, rfl, rfl, by decide +kernel, rfl, by decide +kernel, by decide +kernel⟩
abbrev s_Book_and : Stmt := inClass (topS 21) 10
theorem sc_Book_and : FnScope ["self", "other", "more", "name"] ["self", "other"] (defScope s_Book_and) := ⟨rfl, rfl, rfl, by decide +kernel, rfl, by decide +kernel, by decide +kernel⟩
abbrev s_Book_len : Stmt := inClass (topS 21) 12
theorem sc_Book_len : FnScope ["self"] ["self"] (defScope s_Book_len) := ⟨rfl, rfl, rfl, by decide +kernel, rfl, by decide +kernel, by decide +kernel⟩
abbrev s_Book_eq : Stmt := inClass (topS 21) 13
theorem sc_Book_eq : FnScope ["self", "other"] ["self", "other"] (defScope s_Book_eq) := ⟨rfl, rfl, rfl, by decide +kernel, rfl, by decide +kernel, by decide +kernel⟩
abbrev s_law_deck : Stmt := topS 23
theorem sc_law_deck : FnScope ["script", "mixed", "cell", "great"] ["script"] (defScope s_law_deck) := ⟨rfl, rfl, rfl, by decide +kernel, rfl, by decide +kernel, by decide +kernel⟩
abbrev s_law_draw : Stmt := topS 24
theorem sc_law_draw : FnScope ["deck", "many", "one"] ["deck", "many"] (defScope s_law_draw) := ⟨rfl, rfl, rfl, by decide +kernel, rfl, by decide +kernel, by decide +kernel⟩
abbrev s_law_names : Stmt := topS 25
theorem sc_law_names : FnScope ["deck", "many", "letters", "words", "way", "stem", "found", "k", "at", "name", "m", "one"] ["deck", "many"] (defScope s_law_names) := ⟨rfl, rfl, rfl, by decide +kernel, rfl, by decide +kernel, by decide +kernel⟩
abbrev s_law_rule : Stmt := topS 26
theorem sc_law_rule : FnScope ["deck", "task_list", "kinds", "kind", "one"] ["deck", "task_list"] (defScope s_law_rule) := ⟨rfl, rfl, rfl, by decide +kernel, rfl, by decide +kernel, by decide +kernel⟩
abbrev s_law_great : Stmt := topS 27
theorem sc_law_great : FnScope ["deck", "many", "one", "k"] ["deck", "many"] (defScope s_law_great) := ⟨rfl, rfl, rfl, by decide +kernel, rfl, by decide +kernel, by decide +kernel⟩
abbrev s_law_days : Stmt := topS 28
theorem sc_law_days : FnScope ["deck", "last_day", "many", "way", "wide", "low", "days", "k"] ["deck", "last_day", "many"] (defScope s_law_days) := ⟨rfl, rfl, rfl, by decide +kernel, rfl, by decide +kernel, by decide +kernel⟩
abbrev s_law_number : Stmt := topS 29
theorem sc_law_number : FnScope ["deck", "way"] ["deck"] (defScope s_law_number) := ⟨rfl, rfl, rfl, by decide +kernel, rfl, by decide +kernel, by decide +kernel⟩
abbrev s_law_kept : Stmt := topS 30
theorem sc_law_kept : FnScope ["rule", "task_list", "last_day", "days", "kind", "one", "gap"] ["rule", "task_list", "last_day", "days"] (defScope s_law_kept) := ⟨rfl, rfl, rfl, by decide +kernel, rfl, by decide +kernel, by decide +kernel⟩
abbrev s_law_is_plan : Stmt := topS 31
theorem sc_law_is_plan : FnScope ["task_list", "rule_list", "last_day", "days", "day", "rule"] ["task_list", "rule_list", "last_day", "days"] (defScope s_law_is_plan) := ⟨rfl, rfl, rfl, by decide +kernel, rfl, by decide +kernel, by decide +kernel⟩
abbrev s_law_backward : Stmt := topS 32
theorem sc_law_backward : FnScope ["rule"] ["rule"] (defScope s_law_backward) := ⟨rfl, rfl, rfl, by decide +kernel, rfl, by decide +kernel, by decide +kernel⟩
abbrev s_law_order : Stmt := topS 33
theorem sc_law_order : FnScope ["deck", "many", "left", "k"] ["deck", "many"] (defScope s_law_order) := ⟨rfl, rfl, rfl, by decide +kernel, rfl, by decide +kernel, by decide +kernel⟩
abbrev s_law_equal : Stmt := topS 34
theorem sc_law_equal : FnScope ["one", "two"] ["one", "two"] (defScope s_law_equal) := ⟨rfl, rfl, rfl, by decide +kernel, rfl, by decide +kernel, by decide +kernel⟩
abbrev s_law_pairs_right : Stmt := topS 35
theorem sc_law_pairs_right : FnScope ["deck", "one", "two", "both", "given"] ["deck", "one", "two"] (defScope s_law_pairs_right) := ⟨rfl, rfl, rfl, by decide +kernel, rfl, by decide +kernel, by decide +kernel⟩
abbrev s_law_due : Stmt := topS 36
theorem sc_law_due : FnScope ["data", "last_day", "days", "top", "at", "own", "given", "part"] ["data", "last_day", "days"] (defScope s_law_due) := ⟨rfl, rfl, rfl, by decide +kernel, rfl, by decide +kernel, by decide +kernel⟩
abbrev s_law_rows_right : Stmt := topS 37
theorem sc_law_rows_right : FnScope ["deck", "books", "data", "one", "two", "three", "left", "right", "back", "names", "k", "last_day", "days", "due", "turned", "told", "day", "name"] ["deck", "books", "data"] (defScope s_law_rows_right) := ⟨rfl, rfl, rfl, by decide +kernel, rfl, by decide +kernel, by decide +kernel⟩
abbrev s_law : Stmt := topS 38
theorem sc_law : FnScope ["script", "deck", "names", "books", "data", "k", "own", "given", "at", "m"] ["script"] (defScope s_law) := ⟨rfl, rfl, rfl, by decide +kernel, rfl, by decide +kernel, by decide +kernel⟩
/-- what the top has written, as the walks ask it -/
structure Tx (K : PySem.W.Frag) (w : World) (mg : Str → Option Value) where
  C_Book : Addr
  cl_Book : Cls K C_Book
  mg_Book : mg "Book" = some (.ref C_Book)
  n_Book_tasks : NoAttr K C_Book "_tasks"
  n_Book_rules : NoAttr K C_Book "_rules"
  d__TASKS_IN : Addr
  e__TASKS_IN : Array DictEntry
  i__TASKS_IN : Nat
  g__TASKS_IN : mg "_TASKS_IN" = some (.ref d__TASKS_IN)
  kd__TASKS_IN : KDict K w d__TASKS_IN e__TASKS_IN i__TASKS_IN
  k__TASKS_IN_before : ∃ t, PySem.W.nsIn K d__TASKS_IN "before" = some (some (.int 2 t))
  k__TASKS_IN_upto : ∃ t, PySem.W.nsIn K d__TASKS_IN "upto" = some (some (.int 2 t))
  k__TASKS_IN_same : ∃ t, PySem.W.nsIn K d__TASKS_IN "same" = some (some (.int 2 t))
  k__TASKS_IN_apart : ∃ t, PySem.W.nsIn K d__TASKS_IN "apart" = some (some (.int 2 t))
  k__TASKS_IN_far : ∃ t, PySem.W.nsIn K d__TASKS_IN "far" = some (some (.int 2 t))
  k__TASKS_IN_next : ∃ t, PySem.W.nsIn K d__TASKS_IN "next" = some (some (.int 2 t))
  k__TASKS_IN_first : ∃ t, PySem.W.nsIn K d__TASKS_IN "first" = some (some (.int 1 t))
  k__TASKS_IN_last : ∃ t, PySem.W.nsIn K d__TASKS_IN "last" = some (some (.int 1 t))
  d__OTHER_END : Addr
  e__OTHER_END : Array DictEntry
  i__OTHER_END : Nat
  g__OTHER_END : mg "_OTHER_END" = some (.ref d__OTHER_END)
  kd__OTHER_END : KDict K w d__OTHER_END e__OTHER_END i__OTHER_END
  k__OTHER_END_first : ∃ t, PySem.W.nsIn K d__OTHER_END "first" = some (some (.str "last" t))
  k__OTHER_END_last : ∃ t, PySem.W.nsIn K d__OTHER_END "last" = some (some (.str "first" t))
  k__OTHER_END_same : PySem.W.nsIn K d__OTHER_END "same" = some none
  k__OTHER_END_apart : PySem.W.nsIn K d__OTHER_END "apart" = some none
  d__EXCHANGED : Addr
  e__EXCHANGED : Array DictEntry
  i__EXCHANGED : Nat
  g__EXCHANGED : mg "_EXCHANGED" = some (.ref d__EXCHANGED)
  kd__EXCHANGED : KDict K w d__EXCHANGED e__EXCHANGED i__EXCHANGED
  k__EXCHANGED_before : ∃ t, PySem.W.nsIn K d__EXCHANGED "before" = some (some (.str "upto" t))
  k__EXCHANGED_upto : ∃ t, PySem.W.nsIn K d__EXCHANGED "upto" = some (some (.str "before" t))
  k__EXCHANGED_same : PySem.W.nsIn K d__EXCHANGED "same" = some none
  k__EXCHANGED_apart : PySem.W.nsIn K d__EXCHANGED "apart" = some none
  k__EXCHANGED_far : PySem.W.nsIn K d__EXCHANGED "far" = some none
  k__EXCHANGED_next : PySem.W.nsIn K d__EXCHANGED "next" = some none
  k__EXCHANGED_first : PySem.W.nsIn K d__EXCHANGED "first" = some none
  k__EXCHANGED_last : PySem.W.nsIn K d__EXCHANGED "last" = some none
  d__DIRECTED : Addr
  g__DIRECTED : mg "_DIRECTED" = some (.ref d__DIRECTED)
  sq__DIRECTED : ∀ H : Hp, SqT K H d__DIRECTED ((["before", "upto", "far", "next"] : List Str).map V.str)
  t__LONGEST_NAME : Tok
  v__LONGEST_NAME : mg "_LONGEST_NAME" = some (.int 8 t__LONGEST_NAME)
  f_PlanError_init : Addr
  C_DoubleName : Addr
  mg_DoubleName : mg "DoubleName" = some (.ref C_DoubleName)
  ox_DoubleName : OexC K C_DoubleName
  ic_DoubleName : PySem.W.findIn K (.ref C_DoubleName) "__init__" = some (some (.ref f_PlanError_init))
  nv_DoubleName : PySem.W.findIn K (.ref C_DoubleName) "value" = some none
  xf_DoubleName : XfC K C_DoubleName
  ti : PySem.W.typeIn K (.ref f_PlanError_init) = some (.type "function")
  C_PlanError : Addr
  mg_PlanError : mg "PlanError" = some (.ref C_PlanError)
  d_PlanError_init : FuncData
  F_PlanError_init : Fun K "__init__" "PlanError.__init__" s_PlanError_init f_PlanError_init d_PlanError_init
  b_PlanError_init : Binds K d_PlanError_init ["self", "value"] []
  f_is_name : Addr
  d_is_name : FuncData
  F_is_name : Fun K "_is_name" "_is_name" s_is_name f_is_name d_is_name
  b_is_name : Binds K d_is_name ["text"] []
  g_is_name : mg "_is_name" = some (.ref f_is_name)
  f_check_tasks : Addr
  d_check_tasks : FuncData
  F_check_tasks : Fun K "_check_tasks" "_check_tasks" s_check_tasks f_check_tasks d_check_tasks
  b_check_tasks : Binds K d_check_tasks ["tasks"] []
  g_check_tasks : mg "_check_tasks" = some (.ref f_check_tasks)
  f_check_rule : Addr
  d_check_rule : FuncData
  F_check_rule : Fun K "_check_rule" "_check_rule" s_check_rule f_check_rule d_check_rule
  b_check_rule : Binds K d_check_rule ["rule", "tasks"] []
  g_check_rule : mg "_check_rule" = some (.ref f_check_rule)
  f_is_kept : Addr
  d_is_kept : FuncData
  F_is_kept : Fun K "is_kept" "is_kept" s_is_kept f_is_kept d_is_kept
  b_is_kept : Binds K d_is_kept ["rule", "n", "days"] []
  g_is_kept : mg "is_kept" = some (.ref f_is_kept)
  f_turned : Addr
  d_turned : FuncData
  F_turned : Fun K "_turned" "_turned" s_turned f_turned d_turned
  b_turned : Binds K d_turned ["rule"] []
  g_turned : mg "_turned" = some (.ref f_turned)
  f_exchanged : Addr
  d_exchanged : FuncData
  F_exchanged : Fun K "_exchanged" "_exchanged" s_exchanged f_exchanged d_exchanged
  b_exchanged : Binds K d_exchanged ["rule"] []
  g_exchanged : mg "_exchanged" = some (.ref f_exchanged)
  f_Book_init : Addr
  d_Book_init : FuncData
  F_Book_init : Fun K "__init__" "Book.__init__" s_Book_init f_Book_init d_Book_init
  b_Book_init : Binds K d_Book_init ["self", "tasks", "rules"] []
  mk_Book : Mk K C_Book f_Book_init
  f_Book_tasks : Addr
  d_Book_tasks : FuncData
  F_Book_tasks : Fun K "tasks" "Book.tasks" s_Book_tasks f_Book_tasks d_Book_tasks
  b_Book_tasks : Binds K d_Book_tasks ["self"] []
  p_Book_tasks : Addr
  pr_Book_tasks : PropOf K C_Book "tasks" p_Book_tasks f_Book_tasks
  f_Book_rules : Addr
  d_Book_rules : FuncData
  F_Book_rules : Fun K "rules" "Book.rules" s_Book_rules f_Book_rules d_Book_rules
  b_Book_rules : Binds K d_Book_rules ["self"] []
  p_Book_rules : Addr
  pr_Book_rules : PropOf K C_Book "rules" p_Book_rules f_Book_rules
  f_Book_keeps : Addr
  d_Book_keeps : FuncData
  F_Book_keeps : Fun K "keeps" "Book.keeps" s_Book_keeps f_Book_keeps d_Book_keeps
  b_Book_keeps : Binds K d_Book_keeps ["self", "n", "plan"] []
  me_Book_keeps : Meth K C_Book "keeps" f_Book_keeps
  f_Book_with_rules : Addr
  d_Book_with_rules : FuncData
  F_Book_with_rules : Fun K "with_rules" "Book.with_rules" s_Book_with_rules f_Book_with_rules d_Book_with_rules
  b_Book_with_rules : Binds K d_Book_with_rules ["self", "rules"] []
  me_Book_with_rules : Meth K C_Book "with_rules" f_Book_with_rules
  f_Book_without : Addr
  d_Book_without : FuncData
  F_Book_without : Fun K "without" "Book.without" s_Book_without f_Book_without d_Book_without
  b_Book_without : Binds K d_Book_without ["self", "index"] []
  me_Book_without : Meth K C_Book "without" f_Book_without
  f_Book_beside : Addr
  d_Book_beside : FuncData
  F_Book_beside : Fun K "beside" "Book.beside" s_Book_beside f_Book_beside d_Book_beside
  b_Book_beside : Binds K d_Book_beside ["self", "other"] []
  me_Book_beside : Meth K C_Book "beside" f_Book_beside
  f_Book_then : Addr
  d_Book_then : FuncData
  F_Book_then : Fun K "then" "Book.then" s_Book_then f_Book_then d_Book_then
  b_Book_then : Binds K d_Book_then ["self", "other"] []
  me_Book_then : Meth K C_Book "then" f_Book_then
  f_Book_turned : Addr
  d_Book_turned : FuncData
  F_Book_turned : Fun K "turned" "Book.turned" s_Book_turned f_Book_turned d_Book_turned
  b_Book_turned : Binds K d_Book_turned ["self"] []
  me_Book_turned : Meth K C_Book "turned" f_Book_turned
  f_Book_exchanged : Addr
  d_Book_exchanged : FuncData
  F_Book_exchanged : Fun K "exchanged" "Book.exchanged" s_Book_exchanged f_Book_exchanged d_Book_exchanged
  b_Book_exchanged : Binds K d_Book_exchanged ["self"] []
  me_Book_exchanged : Meth K C_Book "exchanged" f_Book_exchanged
  f_Book_and : Addr
  d_Book_and : FuncData
  F_Book_and : Fun K "__and__" "Book.__and__" s_Book_and f_Book_and d_Book_and
  b_Book_and : Binds K d_Book_and ["self", "other"] []
  me_Book_and : Meth K C_Book "__and__" f_Book_and
  f_Book_len : Addr
  d_Book_len : FuncData
  F_Book_len : Fun K "__len__" "Book.__len__" s_Book_len f_Book_len d_Book_len
  b_Book_len : Binds K d_Book_len ["self"] []
  me_Book_len : Meth K C_Book "__len__" f_Book_len
  f_Book_eq : Addr
  d_Book_eq : FuncData
  F_Book_eq : Fun K "__eq__" "Book.__eq__" s_Book_eq f_Book_eq d_Book_eq
  b_Book_eq : Binds K d_Book_eq ["self", "other"] []
  me_Book_eq : Meth K C_Book "__eq__" f_Book_eq
  f_law_deck : Addr
  d_law_deck : FuncData
  F_law_deck : Fun K "_law_deck" "_law_deck" s_law_deck f_law_deck d_law_deck
  b_law_deck : Binds K d_law_deck ["script"] []
  g_law_deck : mg "_law_deck" = some (.ref f_law_deck)
  f_law_draw : Addr
  d_law_draw : FuncData
  F_law_draw : Fun K "_law_draw" "_law_draw" s_law_draw f_law_draw d_law_draw
  b_law_draw : Binds K d_law_draw ["deck", "many"] []
  g_law_draw : mg "_law_draw" = some (.ref f_law_draw)
  f_law_names : Addr
  d_law_names : FuncData
  F_law_names : Fun K "_law_names" "_law_names" s_law_names f_law_names d_law_names
  b_law_names : Binds K d_law_names ["deck", "many"] []
  g_law_names : mg "_law_names" = some (.ref f_law_names)
  f_law_rule : Addr
  d_law_rule : FuncData
  F_law_rule : Fun K "_law_rule" "_law_rule" s_law_rule f_law_rule d_law_rule
  b_law_rule : Binds K d_law_rule ["deck", "task_list"] []
  g_law_rule : mg "_law_rule" = some (.ref f_law_rule)
  f_law_great : Addr
  d_law_great : FuncData
  F_law_great : Fun K "_law_great" "_law_great" s_law_great f_law_great d_law_great
  b_law_great : Binds K d_law_great ["deck", "many"] []
  g_law_great : mg "_law_great" = some (.ref f_law_great)
  f_law_days : Addr
  d_law_days : FuncData
  F_law_days : Fun K "_law_days" "_law_days" s_law_days f_law_days d_law_days
  b_law_days : Binds K d_law_days ["deck", "last_day", "many"] []
  g_law_days : mg "_law_days" = some (.ref f_law_days)
  f_law_number : Addr
  d_law_number : FuncData
  F_law_number : Fun K "_law_number" "_law_number" s_law_number f_law_number d_law_number
  b_law_number : Binds K d_law_number ["deck"] []
  g_law_number : mg "_law_number" = some (.ref f_law_number)
  f_law_kept : Addr
  d_law_kept : FuncData
  F_law_kept : Fun K "_law_kept" "_law_kept" s_law_kept f_law_kept d_law_kept
  b_law_kept : Binds K d_law_kept ["rule", "task_list", "last_day", "days"] []
  g_law_kept : mg "_law_kept" = some (.ref f_law_kept)
  f_law_is_plan : Addr
  d_law_is_plan : FuncData
  F_law_is_plan : Fun K "_law_is_plan" "_law_is_plan" s_law_is_plan f_law_is_plan d_law_is_plan
  b_law_is_plan : Binds K d_law_is_plan ["task_list", "rule_list", "last_day", "days"] []
  g_law_is_plan : mg "_law_is_plan" = some (.ref f_law_is_plan)
  f_law_backward : Addr
  d_law_backward : FuncData
  F_law_backward : Fun K "_law_backward" "_law_backward" s_law_backward f_law_backward d_law_backward
  b_law_backward : Binds K d_law_backward ["rule"] []
  g_law_backward : mg "_law_backward" = some (.ref f_law_backward)
  f_law_order : Addr
  d_law_order : FuncData
  F_law_order : Fun K "_law_order" "_law_order" s_law_order f_law_order d_law_order
  b_law_order : Binds K d_law_order ["deck", "many"] []
  g_law_order : mg "_law_order" = some (.ref f_law_order)
  f_law_equal : Addr
  d_law_equal : FuncData
  F_law_equal : Fun K "_law_equal" "_law_equal" s_law_equal f_law_equal d_law_equal
  b_law_equal : Binds K d_law_equal ["one", "two"] []
  g_law_equal : mg "_law_equal" = some (.ref f_law_equal)
  f_law_pairs_right : Addr
  d_law_pairs_right : FuncData
  F_law_pairs_right : Fun K "_law_pairs_right" "_law_pairs_right" s_law_pairs_right f_law_pairs_right d_law_pairs_right
  b_law_pairs_right : Binds K d_law_pairs_right ["deck", "one", "two"] []
  g_law_pairs_right : mg "_law_pairs_right" = some (.ref f_law_pairs_right)
  f_law_due : Addr
  d_law_due : FuncData
  F_law_due : Fun K "_law_due" "_law_due" s_law_due f_law_due d_law_due
  b_law_due : Binds K d_law_due ["data", "last_day", "days"] []
  g_law_due : mg "_law_due" = some (.ref f_law_due)
  f_law_rows_right : Addr
  d_law_rows_right : FuncData
  F_law_rows_right : Fun K "_law_rows_right" "_law_rows_right" s_law_rows_right f_law_rows_right d_law_rows_right
  b_law_rows_right : Binds K d_law_rows_right ["deck", "books", "data"] []
  g_law_rows_right : mg "_law_rows_right" = some (.ref f_law_rows_right)
  f_law : Addr
  d_law : FuncData
  F_law : Fun K "law" "law" s_law f_law d_law
  b_law : Binds K d_law ["script"] []
  g_law : mg "law" = some (.ref f_law)
  m_all : mg "all" = none
  m_dict : mg "dict" = none
  m_int : mg "int" = none
  m_isinstance : mg "isinstance" = none
  m_len : mg "len" = none
  m_list : mg "list" = none
  m_max : mg "max" = none
  m_min : mg "min" = none
  m_range : mg "range" = none
  m_sorted : mg "sorted" = none
  m_sum : mg "sum" = none
  m_zip : mg "zip" = none
  xa_Book : PySem.W.findIn K (.ref C_Book) "__class__" = some (some (.builtin "object.__class__"))
  xn_Book : PySem.W.specialIn K (.builtin "object.__class__") "__get__" = some (some (.builtin "getset_descriptor.__get__"))
  xt_Book : PySem.W.takesIn K (.builtin "object.__class__") = some true
  xm_Book : PySem.W.mroIn K C_Book (.type "object") = some true
  tc_Book : PySem.W.typeIn K (.ref C_Book) = some (.type "type")
  cm_Book : CmpC K C_Book
  sf_Book : PySem.W.selfFirst K C_Book = true
section
variable {P : Program} {w : World} {K : PySem.W.Frag} {mg : Str → Option Value} {base : Heap}
/-! ### the program's defs -/
def sp_isname : Sp := fun vs H Q _ => ∃ z, vs = [.str z] ∧ Nm z ∧ ∀ H', Same H H' → Q (.bl true) H'
theorem le_a (c : Nat) (h : 97 ≤ c) : (!decide ((#[c] : Array Nat).toList < (Str.ofString "a").cps.toList)) = true := by
  have : (Str.ofString "a").cps.toList = [97] := by decide +kernel
  rw [this]
  have : ¬ [c] < [97] := by
    intro z
    rcases List.cons_lt_cons_iff.mp z with h1 | ⟨_, h2⟩
    · omega
    · exact absurd h2 (List.not_lt_nil _)
  simpa using this
theorem ge_z (c : Nat) (h : c ≤ 122) : (!decide ((Str.ofString "z").cps.toList < (#[c] : Array Nat).toList)) = true := by
  have : (Str.ofString "z").cps.toList = [122] := by decide +kernel
  rw [this]
  have : ¬ [122] < [c] := by
    intro z
    rcases List.cons_lt_cons_iff.mp z with h1 | ⟨_, h2⟩
    · omega
    · exact absurd h2 (List.not_lt_nil _)
  simpa using this
theorem all_true (n : Nat) : (List.replicate n true).all id = true := by
  induction n with
  | zero => rfl
  | succ n ih => rw [List.replicate_succ, List.all_cons, ih]; rfl
theorem ok_is_name (T : Tx K w mg) : FnOk P w K mg base CX0 1 T.f_is_name T.d_is_name ["text"] sp_isname := by
  refine T.F_is_name.ok sc_is_name (fun vs H Q E h => ?_) (fun cdv A outer s H vs Q E hr h => ?_)
  · obtain ⟨z, rfl, _⟩ := h
    rfl
  · obtain ⟨z, rfl, hn, k⟩ := h
    refine ⟨_,
    (pss_one
      (ps_ret (pe_and (pe_chain op_le op_le pe_int (pe_callB call_len_str (by rfl) T.m_len (by decide +kernel) (pa_cons (pv 0) pa_nil)) (pe_glob (v := .int 8) (by rfl) T.v__LONGEST_NAME ⟨_, rfl⟩)) (pe_one (pe_callB (cr_all rfl) (by rfl) T.m_all (by decide +kernel) (pa_cons (pe_lc (own := [("sign", 1)]) (g := gName 1) rfl sc_is_name.nd (pi_str (pv 0)) (blkOk_by (N := ["text", "sign"]) (sc := defScope s_is_name) (own := [("sign", 1)]) (by decide +kernel)) (fun _ _ _ _ _ => (pg_name (i := 1) sc_is_name.nd rfl (.inl rfl))) (fun _ _ _ _ _ => pts_nil) (fun _ _ _ _ _ => (pe_chain op_le_str op_le_str pe_str (pv 1) pe_str))) pa_nil)))))), ?_⟩
    have few := hn.few
    have pos := hn.pos
    have line : z.length ≤ sizeLine := Nat.le_of_lt (small1000 (by omega))
    refine ⟨_, rfl, _, rfl, line, _, _, rfl, rfl, _, rfl, iteD (by omega) ⟨_, _, rfl, rfl, _, rfl, iteD (by omega) ?_⟩⟩
    refine ⟨_, rfl, z, rfl, fun D hD => ?_⟩
    refine lc_str (fun i H' => i ≤ z.length ∧ H' D = some (.lst ((List.replicate i true).map V.bl)) ∧ Same H H') ?_ ?_ ?_
    · exact ⟨Nat.zero_le _, upd_same, same_upd hD⟩
    · rintro i c H1 hc ⟨hi, eD, sm⟩
      have hm : c ∈ z.cps.toList := by
        have : z.cps.toList[i]? = some c := by simpa using hc
        exact List.mem_of_getElem? this
      have hil : i < z.length := by
        have : i < z.cps.size := by
          rcases Nat.lt_or_ge i z.cps.size with h | h
          · exact h
          · rw [Array.getElem?_eq_none h] at hc; cases hc
        exact this
      obtain ⟨l1, l2⟩ := hn.low c hm
      refine ⟨rfl, _, rfl, _, _, rfl, rfl, _, rfl, iteB (le_a c l1) ⟨_, _, rfl, rfl, (List.replicate i true).map V.bl, eD, ?_, hil, ?_, fun b o e => ?_⟩⟩
      · rw [List.length_map, List.length_replicate]; exact small1000 (by omega)
      · rw [upd_same, ge_z c l2, List.replicate_succ', List.map_append]; rfl
      · rw [upd_ne (ne_of_none e hD)]; exact sm b o e
    · rintro H1 ⟨_, eD, sm⟩
      refine ⟨D, List.replicate z.cps.size true, rfl, .of eD, ?_⟩
      rw [all_true]
      exact k H1 sm
def sp_check_tasks (K : PySem.W.Frag) : Sp := fun vs H Q _ => ∃ t ts, vs = [.ref t] ∧ SqL K H t (ts.map V.str) ∧ TasksOk ts ∧ ∀ H', Same H H' → Q .non H'
theorem not_before {ts : List Str} {i : Nat} {z : Str} (nd : ts.Nodup) (h : ts[i]? = some z) : z ∉ ts.take i := fun m => by
  obtain ⟨j, hj, e⟩ := List.mem_iff_getElem.mp m
  rw [List.length_take] at hj
  rw [List.getElem_take] at e
  obtain ⟨hi, e2⟩ := List.getElem?_eq_some_iff.mp h
  have := (List.getElem_inj nd).mp (e.trans e2.symm)
  omega
theorem seen_new {H H1 : Hp} {d : Addr} {o : HO} (hd : H d = none) (sm : Same H H1) : Same H (upd H1 d o) := fun b x e => by
  rw [upd_ne (ne_of_none e hd)]
  exact sm b x e
theorem ok_check_tasks (T : Tx K w mg) : FnOk P w K mg base CX0 2 T.f_check_tasks T.d_check_tasks ["tasks"] (sp_check_tasks K) := by
  refine T.F_check_tasks.ok sc_check_tasks (fun vs H Q E h => ?_) (fun cdv A outer s H vs Q E hr h => ?_)
  · obtain ⟨t, ts, rfl, _⟩ := h
    rfl
  · obtain ⟨t, ts, rfl, hT, ok, k⟩ := h
    refine ⟨_,
    (pss_cons
      (ps_if (pt_not (pt_truth (pv 0) (by intro _; rfl)))
        (pss_one
          ps_never)
        pss_nil)
    (pss_cons
      (ps_set (i := 1) sc_check_tasks.nd rfl (.inl rfl) pe_dnewK)
    (pss_one
      (ps_for PassesOwn.never rfl (pi_list (pv 0)) (pg_name (i := 2) sc_check_tasks.nd rfl (.inl rfl))
        (pss_cons
          (ps_if (pt_not (pt_val (pe_call (ok_is_name T) hr (by rfl) T.g_is_name T.F_is_name.kp T.b_is_name .nil pass0 (pa_cons (pv 2) pa_nil))))
            (pss_one
              ps_never)
            pss_nil)
        (pss_cons
          (ps_if (pt_cmp (pc_din (hu_of hr) (pv 2) (pv 1)))
            (pss_one
              ps_never)
            pss_nil)
        (pss_one
          (ps_dput (hu_of hr) (pv 1) (pv 2) pe_bl (by rfl))))))))), ?_⟩
    refine ⟨_, rfl, true, .inl ⟨_, hT, ?_⟩, fun d hd => ?_⟩
    · cases ts with
      | nil => exact absurd rfl ok.ne
      | cons a r => rfl
    have sd : Same H (upd H d (.dK [])) := same_upd hd
    refine ⟨_, rfl, t, rfl, ⟨_, sd.seq hT⟩, for_list (xs := ts.map V.str) (fun i σ H' => Same H H' ∧ (∃ kvs : List (Key × V), H' d = some (.dK kvs) ∧ kvs.length ≤ i ∧ ∀ z : Str, (valV kvs (.inr z)).isSome = decide (z ∈ ts.take i)) ∧ ∃ x, σ = [some (.ref t), some (.ref d), x]) ?_ ?_ ?_ ?_⟩
    · exact ⟨sd, ⟨[], upd_same, Nat.le_refl _, fun z => by simp [valV]⟩, none, rfl⟩
    · rintro i σ H' _ ⟨sm, _⟩
      exact sm.seq hT
    · rintro i v σ H1 hi ⟨sm, ⟨kvs, hk, hl, hv⟩, x, rfl⟩
      rw [List.getElem?_map] at hi
      obtain ⟨z, hz, rfl⟩ := Option.map_eq_some_iff.mp hi
      have nz := ok.nm z (List.mem_of_getElem? hz)
      have hit : i < ts.length := (List.getElem?_eq_some_iff.mp hz).1
      have few := ok.few
      refine ⟨_, rfl, z, rfl, nz, fun H2 s2 => ⟨_, rfl, ?_⟩⟩
      have hk2 := s2 _ _ hk
      refine ⟨_, rfl, _, rfl, d, _, rfl, DGet.k (k := .inr z) hk2, _, rfl, iteNB ?_ ?_⟩
      · rw [hv]; exact decide_eq_false (not_before ok.nd hz)
      · refine ⟨_, rfl, _, rfl, d, _, rfl, DPut.k (k := .inr z) hk2 (small1000 (by omega)), seen_new hd (sm.trans s2), ⟨_, upd_same, ?_, fun y => ?_⟩, _, rfl⟩
        · exact Nat.le_trans (length_putK _ _ _) (by omega)
        · rw [valV_put, List.take_add_one, hz]
          by_cases e : y = z
          · subst e
            simp
          · have e2 : ¬ (Sum.inr y : Key) = .inr z := fun q => e (Sum.inr.inj q)
            rw [if_neg e2, hv y]
            simp [e]
    · rintro σ H' ⟨sm, _⟩
      exact k H' sm
def sp_check_rule (K : PySem.W.Frag) : Sp := fun vs H Q _ => ∃ a t l ts, vs = [.ref a, .ref t] ∧ SqT K H a (l.map V.str) ∧ SqL K H t (ts.map V.str) ∧ RuleOk ts l ∧ ∀ H', Same H H' → Q .non H'
theorem kind_in {T : Tx K w mg} {k : Str} {n : Int} (h : (k ∈ two ∧ n = 1) ∨ (k ∈ six ∧ n = 2)) : ∃ t, PySem.W.nsIn K T.d__TASKS_IN k = some (some (.int n t)) := by
  rcases h with ⟨h, rfl⟩ | ⟨h, rfl⟩
  · simp only [two, List.mem_cons, List.not_mem_nil, or_false] at h
    rcases h with rfl | rfl
    · exact T.k__TASKS_IN_first
    · exact T.k__TASKS_IN_last
  · simp only [six, List.mem_cons, List.not_mem_nil, or_false] at h
    rcases h with rfl | rfl | rfl | rfl | rfl | rfl
    · exact T.k__TASKS_IN_before
    · exact T.k__TASKS_IN_upto
    · exact T.k__TASKS_IN_same
    · exact T.k__TASKS_IN_apart
    · exact T.k__TASKS_IN_far
    · exact T.k__TASKS_IN_next
theorem ok_check_rule (T : Tx K w mg) : FnOk P w K mg base CX0 1 T.f_check_rule T.d_check_rule ["rule", "tasks"] (sp_check_rule K) := by
  refine T.F_check_rule.ok sc_check_rule (fun vs H Q E h => ?_) (fun cdv A outer s H vs Q E hr h => ?_)
  · obtain ⟨a, t, l, ts, rfl, _⟩ := h
    rfl
  · obtain ⟨a, t, l, ts, rfl, hA, hT, ok, k⟩ := h
    have hl : ∃ kd r, l = kd :: r ∧ ((kd ∈ two ∧ r.length = 1) ∨ (kd ∈ six ∧ r.length = 2)) ∧ (∀ z ∈ r, z ∈ ts) ∧ (∀ x y, r = [x, y] → x ≠ y) := by
      rcases ok with ⟨kd, x, h1, h2, rfl⟩ | ⟨kd, x, y, h1, h2, h3, h4, rfl⟩
      · exact ⟨kd, [x], rfl, .inl ⟨h1, rfl⟩, fun z hz => by rw [List.mem_singleton.mp hz]; exact h2, fun x y e => by simp at e⟩
      · exact ⟨kd, [x, y], rfl, .inr ⟨h1, rfl⟩, fun z hz => by
          rcases List.mem_cons.mp hz with e | e
          · rw [e]; exact h2
          · rw [List.mem_singleton.mp e]; exact h3, fun u v e => by
          injection e with e1 e2
          injection e2 with e2 _
          rw [← e1, ← e2]; exact h4⟩
    obtain ⟨kd, r, rfl, hk, hin, hne⟩ := hl
    obtain ⟨tk, hd⟩ := kind_in (T := T) (k := kd) (n := r.length) (by rcases hk with ⟨h, e⟩ | ⟨h, e⟩; exact .inl ⟨h, by omega⟩; exact .inr ⟨h, by omega⟩)
    refine ⟨_,
    (pss_cons
      (ps_if (PW.pt (pw_or (pt_cmpR (op_notIn_kd T.kd__TASKS_IN) (pe_ix ix_tup (pv 0) pe_int (fun _ _ => rfl)) (pe_glob (v := .ref T.d__TASKS_IN) (by rfl) T.g__TASKS_IN rfl) (by rfl)) (pw_or1 (pt_cmpR op_ne (pe_callB call_len_seq (by rfl) T.m_len (by decide +kernel) (pa_cons (pv 0) pa_nil)) (pe_op op_add pe_int (pe_ix (ix_kd T.kd__TASKS_IN) (pe_glob (v := .ref T.d__TASKS_IN) (by rfl) T.g__TASKS_IN rfl) (pe_ix ix_tup (pv 0) pe_int (fun _ _ => rfl)) (fun _ _ => rfl))) (nomark _)))))
        (pss_one
          ps_never)
        pss_nil)
    (pss_cons
      (ps_for PassesOwn.never rfl (pi_tup (pe_slice sl_tup (pv 0) (po_some pe_int) po_none)) (pg_name (i := 2) sc_check_rule.nd rfl (.inl rfl))
        (pss_one
          (ps_if (pt_cmpR op_notIn_seq (pv 2) (pv 1) (by rfl))
            (pss_one
              ps_never)
            pss_nil)))
    (pss_one
      (ps_if (PW.pt (pw_and (pt_cmpR op_eq (pe_callB call_len_seq (by rfl) T.m_len (by decide +kernel) (pa_cons (pv 0) pa_nil)) pe_int (nomark _)) (pw_and1 (pt_cmpR op_eq (pe_ix ix_tup (pv 0) pe_int (fun _ _ => rfl)) (pe_ix ix_tup (pv 0) pe_int (fun _ _ => rfl)) (nomark _)))))
        (pss_one
          ps_never)
        pss_nil)))), ?_⟩
    refine ⟨_, rfl, a, _, _, _, rfl, rfl, hA, atI_nat (j := 0) rfl, _, _, rfl, rfl, hd, _, rfl, ?_⟩
    refine ⟨_, rfl, a, _, rfl, .inr hA, _, rfl, a, _, _, _, rfl, rfl, hA, atI_nat (j := 0) rfl, _, _, .int (r.length : Int), rfl, rfl, hd, ⟨_, rfl⟩, _, _, rfl, rfl, rfl, _, rfl, iteNS ?_ ?_⟩
    · show V.int (((kd :: r).map V.str).length : Int) = V.int (1 + (r.length : Int))
      rw [List.length_map, List.length_cons]
      congr 1
      omega
    refine ⟨_, rfl, _, rfl, a, _, rfl, hA, ?_, fun p hp => ⟨_, rfl, ⟨_, .of upd_same⟩, ?_⟩⟩
    · rintro ⟨h1, _⟩
      rw [show HT.sIx ((kd :: r).map V.str).length 0 (some 1) = min 1 ((kd :: r).map V.str).length from HT.sIx_nat _ _ 1, List.length_map, List.length_cons] at h1
      omega
    have ec : cutV ((kd :: r).map V.str) (some 1) none = r.map V.str := cut_drop _ 1
    rw [ec] at *
    refine for_tup (xs := r.map V.str) (fun i σ H' => Same (upd H p (.tup (r.map V.str))) H' ∧ ∃ x2, σ = [some (.ref a), some (.ref t), x2]) ?_ ?_ ?_ ?_
    · exact ⟨Same.refl _, none, rfl⟩
    · rintro i σ H' _ ⟨sm, _⟩
      exact .of (sm _ _ upd_same)
    · rintro i x σ H1 hi ⟨sm, x2, rfl⟩
      rw [List.getElem?_map] at hi
      obtain ⟨z, hz, rfl⟩ := Option.map_eq_some_iff.mp hi
      have s1 := (same_upd (o := .tup (r.map V.str)) hp).trans sm
      refine ⟨_, rfl, _, rfl, t, _, rfl, .inl (s1.seq hT), rfl, flat_strs _, _, rfl, iteNB ?_ ⟨sm, _, rfl⟩⟩
      show (!inV (V.str z) _) = false
      rw [inV_str, decide_eq_true (hin z (List.mem_of_getElem? hz))]
      rfl
    · rintro σ H1 ⟨sm, x2, rfl⟩
      have s1 := (same_upd (o := .tup (r.map V.str)) hp).trans sm
      have hA1 := Same.tup s1 hA
      refine ⟨_, rfl, a, _, rfl, .inr hA1, rfl, _, rfl, ?_⟩
      rcases hk with ⟨_, e⟩ | ⟨_, e⟩
      · refine iteND ?_ (k H1 s1)
        intro z
        have := V.int.inj z
        rw [List.length_map, List.length_cons] at this
        omega
      · match r, e with
        | [x, y], _ =>
          refine iteD rfl ⟨_, rfl, a, _, _, _, rfl, rfl, hA1, atI_nat (j := 1) rfl, _, rfl, a, _, _, _, rfl, rfl, hA1, atI_nat (j := 2) rfl, rfl, _, rfl, iteND ?_ (k H1 s1)⟩
          intro z
          exact hne x y rfl (V.str.inj z)
/-! ### a book in the heap -/
theorem kc : ¬ (("_tasks" : Str) = "_rules") := by decide +kernel
def fl (t r : Addr) : List (Str × V) := putF "_rules" (.ref r) (putF "_tasks" (.ref t) [])
theorem fl_t (t r : Addr) : (fl t r).lookup ("_tasks" : Str) = some (.ref t) := by
  unfold fl
  rw [lookup_putF, if_neg kc, lookup_putF, if_pos rfl]
theorem fl_r (t r : Addr) : (fl t r).lookup ("_rules" : Str) = some (.ref r) := by
  unfold fl
  rw [lookup_putF, if_pos rfl]
def sp_init (K : PySem.W.Frag) (C : Addr) : Sp := fun vs H Q _ => ∃ (x dx t r : Addr) (ts : List Str) (as : List Addr), vs = [.ref x, .ref t, .ref r] ∧ H x = some (.ins C dx []) ∧ SqL K H t (ts.map V.str) ∧ SqL K H r (as.map V.ref) ∧ TasksOk ts ∧
  (∀ a ∈ as, ∃ l : List Str, SqT K H a (l.map V.str) ∧ RuleOk ts l) ∧ ∀ p q H', H p = none → H q = none → H' x = some (.ins C dx (fl p q)) → H' p = some (.lst (ts.map V.str)) → H' q = some (.lst (as.map V.ref)) →
    (∀ b o, H b = some o → b ≠ x → H' b = some o) → Q .non H'
theorem ok_Book_init (T : Tx K w mg) : FnOk P w K mg base CX0 3 T.f_Book_init T.d_Book_init ["self", "tasks", "rules"] (sp_init K T.C_Book) := by
  refine T.F_Book_init.ok sc_Book_init (fun vs H Q E h => ?_) (fun cdv A outer s H vs Q E hr h => ?_)
  · obtain ⟨x, dx, t, r, ts, as, rfl, _⟩ := h
    rfl
  · obtain ⟨x, dx, t, r, ts, as, rfl, hx, hT, hR, ok, rok, k⟩ := h
    refine ⟨_,
    (pss_cons
      (ps_expr (pe_call (ok_check_tasks T) hr (by rfl) T.g_check_tasks T.F_check_tasks.kp T.b_check_tasks .nil pass0 (pa_cons (pv 1) pa_nil)))
    (pss_cons
      (ps_for PassesOwn.never rfl (pi_list (pv 2)) (pg_name (i := 3) sc_Book_init.nd rfl (.inl rfl))
        (pss_one
          (ps_expr (pe_call (ok_check_rule T) (hr.mono (by decide)) (by rfl) T.g_check_rule T.F_check_rule.kp T.b_check_rule .nil pass0 (pa_cons (pv 3) (pa_cons (pv 1) pa_nil))))))
    (pss_cons
      (ps_fld (pv 0) (pe_callTy call_list_of (by rfl) T.m_list (by decide +kernel) (pa_cons (pv 1) pa_nil)) rfl)
    (pss_one
      (ps_fld (pv 0) (pe_callTy call_list_of (by rfl) T.m_list (by decide +kernel) (pa_cons (pv 2) pa_nil)) rfl))))), ?_⟩
    refine ⟨_, rfl, t, ts, rfl, hT, ok, fun H1 s1 => ?_⟩
    refine ⟨_, rfl, r, rfl, ⟨_, s1.seq hR⟩, for_list (xs := as.map V.ref) (fun i σ H' => Same H H' ∧ ∃ x3, σ = [some (.ref x), some (.ref t), some (.ref r), x3]) ⟨s1, none, rfl⟩ (fun i σ H' _ h => h.1.seq hR) ?_ ?_⟩
    · rintro i v σ H2 hi ⟨sm, x3, rfl⟩
      rw [List.getElem?_map] at hi
      obtain ⟨a, ha, rfl⟩ := Option.map_eq_some_iff.mp hi
      obtain ⟨l, hl, lok⟩ := rok a (List.mem_of_getElem? ha)
      exact ⟨_, rfl, _, rfl, a, t, l, ts, rfl, Same.tup sm hl, sm.seq hT, lok, fun H3 s3 => ⟨sm.trans s3, _, rfl⟩⟩
    · rintro σ H2 ⟨sm, x3, rfl⟩
      refine ⟨_, rfl, t, _, rfl, .inl (sm.seq hT), fun p hp => ?_⟩
      have hx2 := sm _ _ hx
      have xp : x ≠ p := ne_of_none hx2 hp
      have s2 : Same H (upd H2 p (.lst (ts.map V.str))) := sm.trans (same_upd hp)
      have hx3 := s2 _ _ hx
      refine ⟨_, rfl, x, T.C_Book, dx, [], rfl, hx3, T.cl_Book, T.n_Book_tasks, (by show 0 < 1000; decide), ?_⟩
      have hR2 : SqL K (upd (upd H2 p (.lst (ts.map V.str))) x (.ins T.C_Book dx (putF "_tasks" (.ref p) []))) r (as.map V.ref) := by
        rcases s2.seq hR with (h | ⟨o, h⟩) | h
        · exact .inl (.inl (by rw [upd_ne (ne_of h hx3 (by intro z; cases z))]; exact h))
        · exact .inl (.inr ⟨o, by rw [upd_ne (ne_of h hx3 (by intro z; cases z))]; exact h⟩)
        · exact .inr h
      refine ⟨_, rfl, r, _, rfl, .inl hR2, fun q hq => ?_⟩
      have qx : x ≠ q := ne_of_none upd_same hq
      have qp : p ≠ q := ne_of_none (by rw [upd_ne xp.symm]; exact upd_same) hq
      refine ⟨_, rfl, x, T.C_Book, dx, _, rfl, (by rw [upd_ne qx]; exact upd_same), T.cl_Book, T.n_Book_rules, (by show 1 < 1000; decide), ?_⟩
      have hqH : H q = none := by
        rw [upd_ne qx.symm, upd_ne qp.symm] at hq
        exact sm.free hq
      refine k p q _ (sm.free hp) hqH upd_same ?_ ?_ fun b o e nb => ?_
      · rw [upd_ne xp.symm, upd_ne qp, upd_ne xp.symm, upd_same]
      · rw [upd_ne qx.symm, upd_same]
      · rw [upd_ne nb, upd_ne (ne_of_none e hqH), upd_ne nb]
        exact s2 b o e
/-- Book(rules = .., tasks = ..) -/
theorem kb_Book_init (T : Tx K w mg) : KBn K T.d_Book_init ["self", "tasks", "rules"] 1 ["rules", "tasks"] (fun us ws => us ++ ws.reverse) (fun vs zs => vs ++ zs.reverse) := by
  obtain ⟨oc, od, kV, doc, pm, an, cdv, ct, osl, e, _, _⟩ := T.F_Book_init.ex
  refine ⟨fun s us ws _ h1 h2 => ?_, fun r1 r2 => r1.append r2.reverse⟩
  rw [e]
  match us, ws, h1, h2 with
  | [_], [_, _], _, _ => exact BindsTo.of_eq rfl
def sp_get (K : PySem.W.Frag) (C : Addr) (f : Str) : Sp := fun vs H Q _ => ∃ b dx t r a xs, vs = [.ref b] ∧ H b = some (.ins C dx (fl t r)) ∧ (fl t r).lookup f = some (.ref a) ∧ SqL K H a xs ∧ ∀ p, H p = none → Q (.ref p) (upd H p (.lst xs))
theorem ok_Book_tasks (T : Tx K w mg) : FnOk P w K mg base CX0 1 T.f_Book_tasks T.d_Book_tasks ["self"] (sp_get K T.C_Book "_tasks") := by
  refine T.F_Book_tasks.ok sc_Book_tasks (fun vs H Q E h => ?_) (fun cdv A outer s H vs Q E hr h => ?_)
  · obtain ⟨b, dx, t, r, a, xs, rfl, _⟩ := h
    rfl
  · obtain ⟨b, dx, t, r, a, xs, rfl, hb, hf, ha, k⟩ := h
    refine ⟨_,
    (pss_one
      (ps_ret (pe_callTy call_list_of (by rfl) T.m_list (by decide +kernel) (pa_cons (pe_fld (pv 0) rfl) pa_nil)))), ?_⟩
    exact ⟨_, rfl, b, _, dx, _, _, rfl, hb, T.cl_Book, T.n_Book_tasks, hf, a, _, rfl, .inl ha, k⟩
theorem ok_Book_rules (T : Tx K w mg) : FnOk P w K mg base CX0 1 T.f_Book_rules T.d_Book_rules ["self"] (sp_get K T.C_Book "_rules") := by
  refine T.F_Book_rules.ok sc_Book_rules (fun vs H Q E h => ?_) (fun cdv A outer s H vs Q E hr h => ?_)
  · obtain ⟨b, dx, t, r, a, xs, rfl, _⟩ := h
    rfl
  · obtain ⟨b, dx, t, r, a, xs, rfl, hb, hf, ha, k⟩ := h
    refine ⟨_,
    (pss_one
      (ps_ret (pe_callTy call_list_of (by rfl) T.m_list (by decide +kernel) (pa_cons (pe_fld (pv 0) rfl) pa_nil)))), ?_⟩
    exact ⟨_, rfl, b, _, dx, _, _, rfl, hb, T.cl_Book, T.n_Book_rules, hf, a, _, rfl, .inl ha, k⟩
def sp_len (K : PySem.W.Frag) (C : Addr) : Sp := fun vs H Q _ => ∃ b dx t r xs, vs = [.ref b] ∧ H b = some (.ins C dx (fl t r)) ∧ SqL K H r xs ∧ Q (.int xs.length) H
theorem ok_Book_len (T : Tx K w mg) : FnOk P w K mg base CX0 1 T.f_Book_len T.d_Book_len ["self"] (sp_len K T.C_Book) := by
  refine T.F_Book_len.ok sc_Book_len (fun vs H Q E h => ?_) (fun cdv A outer s H vs Q E hr h => ?_)
  · obtain ⟨b, dx, t, r, xs, rfl, _⟩ := h
    rfl
  · obtain ⟨b, dx, t, r, xs, rfl, hb, hr', k⟩ := h
    refine ⟨_,
    (pss_one
      (ps_ret (pe_callB call_len_seq (by rfl) T.m_len (by decide +kernel) (pa_cons (pe_fld (pv 0) rfl) pa_nil)))), ?_⟩
    exact ⟨_, rfl, b, _, dx, _, _, rfl, hb, T.cl_Book, T.n_Book_rules, fl_r t r, r, _, rfl, .inl hr', k⟩
/-! ### the law's deck -/
def Deck (H : Hp) (d g : Addr) : Prop := ∃ (gs : List Int) (a m : Int), H d = some (.lst [.ref g, .int a, .int m]) ∧ H g = some (.lst (gs.map V.int)) ∧ gs.length ≤ 63 ∧ (∀ x ∈ gs, 0 ≤ x) ∧ 0 ≤ a ∧ 0 ≤ m ∧ m < 2147483648
theorem Deck.ne {H : Hp} {d g : Addr} (h : Deck H d g) : d ≠ g := by
  obtain ⟨gs, a, m, h1, h2, _⟩ := h
  intro e
  subst e
  rw [h1] at h2
  cases gs with
  | nil => cases h2
  | cons x r => injection h2 with h2; injection h2 with h2; injection h2 with h2; cases h2
/-- all but the deck is as it was -/
def Kd (d g : Addr) (H H' : Hp) : Prop := ∀ b o, H b = some o → b ≠ d → b ≠ g → H' b = some o
theorem Kd.refl {d g : Addr} (H : Hp) : Kd d g H H := fun _ _ h _ _ => h
theorem Kd.trans {d g : Addr} {H H1 H2 : Hp} (a : Kd d g H H1) (b : Kd d g H1 H2) : Kd d g H H2 := fun x o h n1 n2 => b x o (a x o h n1 n2) n1 n2
theorem Same.kd {d g : Addr} {H H' : Hp} (s : Same H H') : Kd d g H H' := fun b o h _ _ => s b o h
def sp_deck (K : PySem.W.Frag) : Sp := fun vs H Q _ => ∃ (a : Addr) (ns : List Int), vs = [.ref a] ∧ SqL K H a (ns.map V.int) ∧ ns.length ≤ 63 ∧ ∀ d g H', Same H H' → Deck H' d g → Q (.ref d) H'
theorem ok_law_deck (T : Tx K w mg) : FnOk P w K mg base CX0 1 T.f_law_deck T.d_law_deck ["script"] (sp_deck K) := by
  refine T.F_law_deck.ok sc_law_deck (fun vs H Q E h => ?_) (fun cdv A outer s H vs Q E hr h => ?_)
  · obtain ⟨a, ns, rfl, _⟩ := h
    rfl
  · obtain ⟨a, ns, rfl, hS, hl, k⟩ := h
    refine ⟨_,
    (pss_cons
      (ps_set (i := 1) sc_law_deck.nd rfl (.inl rfl) (pe_op op_add pe_int (pe_op op_mod (pe_callB call_len_seq (by rfl) T.m_len (by decide +kernel) (pa_cons (pv 0) pa_nil)) pe_int)))
    (pss_cons
      (ps_for PassesOwn.never rfl (pi_list (pv 0)) (pg_name (i := 2) sc_law_deck.nd rfl (.inl rfl))
        (pss_one
          (ps_set (i := 1) sc_law_deck.nd rfl (.inl rfl) (pe_op op_mod (pe_op op_add (pe_op op_add (pe_op op_mul (pv 1) pe_int) (pe_op op_mod (pe_callTy call_int1 (by rfl) T.m_int (by decide +kernel) (pa_cons (pv 2) pa_nil)) pe_int)) pe_int) pe_int))))
    (pss_cons
      (ps_setLc (i := 3) (own := [("cell", 2)]) (g := gName 2) rfl sc_law_deck.nd rfl rfl (sw_true rfl rfl rfl (by decide +kernel)) (pi_list (pv 0)) (blkOk_by (N := ["script", "mixed", "cell", "great"]) (sc := defScope s_law_deck) (own := [("cell", 2)]) (by decide +kernel)) (fun _ _ _ _ _ => (pg_name (i := 2) sc_law_deck.nd rfl (.inl rfl))) (fun _ _ _ _ _ => (pts_one (pt_cmpR op_ge (pv 2) (pe_op op_pow pe_int pe_int) (nomark _)))) (fun _ _ _ _ _ => (pe_op op_sub (pe_callTy call_int1 (by rfl) T.m_int (by decide +kernel) (pa_cons (pv 2) pa_nil)) (pe_op op_pow pe_int pe_int))))
    (pss_one
      (ps_ret (pe_lst (pa_cons (pe_revL (pv 3)) (pa_cons pe_int (pa_cons (pe_op op_add (pe_op op_mod (pv 1) pe_int) pe_int) pa_nil))))))))), ?_⟩
    refine ⟨_, rfl, a, _, rfl, .inl hS, _, _, rfl, rfl, (by show (0 : Int) < 1009; decide), _, _, rfl, rfl, ?_⟩
    have m0 : 0 ≤ 1 + ((ns.map V.int).length : Int) % 1009 := by omega
    have m1 : 1 + ((ns.map V.int).length : Int) % 1009 < 2147483648 := by omega
    refine ⟨_, rfl, a, rfl, ⟨_, hS⟩, for_list (xs := ns.map V.int) (fun i σ H' => H' = H ∧ ∃ m x2, 0 ≤ m ∧ m < 2147483648 ∧ σ = [some (.ref a), some (.int m), x2, none]) ⟨rfl, _, none, m0, m1, rfl⟩ (fun i σ H' _ h => by rw [h.1]; exact hS) ?_ ?_⟩
    · rintro i v σ H1 hi ⟨rfl, m, x2, m0, m1, rfl⟩
      rw [List.getElem?_map] at hi
      obtain ⟨c, _, rfl⟩ := Option.map_eq_some_iff.mp hi
      refine ⟨_, rfl, _, _, rfl, rfl, .inl ⟨by omega, by omega⟩, _, rfl, .inl ⟨_, rfl, _, _, rfl, rfl, (by show (0 : Int) < 2147483563; decide), _, _, rfl, rfl, _, _, rfl, rfl, _, _, rfl, rfl, (by show (0 : Int) < 2147483399; decide), rfl, _, _, Int.emod_nonneg _ (by decide), Int.lt_trans (Int.emod_lt_of_pos _ (by decide)) (by decide), rfl⟩⟩
    · rintro σ H1 ⟨rfl, m, x2, m0, m1, rfl⟩
      refine ⟨_, rfl, a, rfl, ⟨_, hS⟩, fun D hD => ?_⟩
      refine lc_list (xs := ns.map V.int) (fun i H' => ∃ gs : List Int, gs.length ≤ i ∧ (∀ x ∈ gs, 0 ≤ x) ∧ H' D = some (.lst (gs.map V.int)) ∧ Same H1 H') ?_ ?_ ?_ ?_
      · exact ⟨[], Nat.le_refl _, (fun _ h => absurd h List.not_mem_nil), upd_same, same_upd hD⟩
      · rintro i H' _ ⟨gs, _, _, _, sm⟩
        exact sm.seq hS
      · rintro i v H' hi ⟨gs, gl, g0, eD, sm⟩
        have hil := (List.getElem?_eq_some_iff.mp hi).1
        rw [List.length_map] at hil
        rw [List.getElem?_map] at hi
        obtain ⟨c, _, rfl⟩ := Option.map_eq_some_iff.mp hi
        refine ⟨rfl, _, rfl, _, _, rfl, rfl, ⟨by decide, by decide, by decide⟩, _, _, rfl, rfl, _, rfl, ite2 (fun h => ?_) (fun _ => ⟨gs, by omega, g0, eD, sm⟩)⟩
        have h1 : (10 : Int) ^ (18 : Int).toNat ≤ c := of_decide_eq_true h
        refine ⟨_, rfl, .inl ⟨_, rfl, _, _, rfl, rfl, ⟨by decide, by decide, by decide⟩, _, _, rfl, rfl, gs.map V.int, eD, ?_, gs ++ [c - (10 : Int) ^ (18 : Int).toNat], ?_, ?_, ?_, fun b o e => ?_⟩⟩
        · rw [List.length_map]; exact small1000 (by omega)
        · rw [List.length_append]; exact Nat.succ_le_succ gl
        · intro x hx
          rcases List.mem_append.mp hx with h | h
          · exact g0 x h
          · have := List.mem_singleton.mp h
            omega
        · rw [upd_same, List.map_append]; rfl
        · rw [upd_ne (ne_of_none e hD)]; exact sm b o e
      · rintro H2 ⟨gs, gl, g0, eD, sm⟩
        rw [List.length_map] at gl
        refine ⟨_, rfl, D, _, rfl, .of eD, fun g hg => ⟨_, rfl, _, _, rfl, rfl, (by show (0 : Int) < 2147483398; decide), _, _, rfl, rfl, (by show 3 ≤ sizeLine; decide), fun d hd => ?_⟩⟩
        refine k d g _ ((sm.trans (same_upd hg)).trans (same_upd hd)) ⟨gs.reverse, 0, m % 2147483398 + 1, upd_same, ?_, by rw [List.length_reverse]; omega, fun x hx => g0 x (List.mem_reverse.mp hx), by decide, by omega, by omega⟩
        rw [upd_ne (ne_of_none upd_same hd), upd_same, List.map_reverse]
def sp_draw : Sp := fun vs H Q _ => ∃ (d g : Addr) (n : Int), vs = [.ref d, .int n] ∧ Deck H d g ∧ 0 < n ∧ n.natAbs.log2 < 9000 ∧ ∀ r H', 0 ≤ r → r < n → Deck H' d g → Kd d g H H' → Q (.int r) H'
theorem small_log {m : Int} (h : m.natAbs < 1024) : m.natAbs.log2 < 9000 := by
  have h1 : m.natAbs.log2 < 10 := PySem.Flt.log2_lt_of (by decide) h
  omega
theorem ok_law_draw (T : Tx K w mg) : FnOk P w K mg base CX0 1 T.f_law_draw T.d_law_draw ["deck", "many"] sp_draw := by
  refine T.F_law_draw.ok sc_law_draw (fun vs H Q E h => ?_) (fun cdv A outer s H vs Q E hr h => ?_)
  · obtain ⟨d, g, n, rfl, _⟩ := h
    rfl
  · obtain ⟨d, g, n, rfl, hD, hn, hl, k⟩ := h
    refine ⟨_,
    (pss_cons
      (ps_while PassesOwn.never (PW.pt (pw_and (pt_cmpR op_lt (pe_ix ix_list (pv 0) pe_int (fun _ _ => rfl)) pe_int (nomark _)) (pw_and1 (pt_cmpR op_gt (pe_callB call_len_seq (by rfl) T.m_len (by decide +kernel) (pa_cons (pe_ix ix_list (pv 0) pe_int (fun _ _ => rfl)) pa_nil)) pe_int (nomark _)))))
        (pss_one
          (ps_asg (pe_bm0 PySem.F.plainAttrs_list PySem.F.slot_list_pop PySem.F.type_list_pop mt_pop (pe_ix ix_list (pv 0) pe_int (fun _ _ => rfl))) (pg_sub (pv 0) pe_int set_list))))
    (pss_cons
      (ps_if (pt_cmpR op_gt (pe_ix ix_list (pv 0) pe_int (fun _ _ => rfl)) pe_int (nomark _))
        (pss_cons
          (ps_set (i := 2) sc_law_draw.nd rfl (.inl rfl) (pe_op op_mod (pe_callTy call_int1 (by rfl) T.m_int (by decide +kernel) (pa_cons (pe_ix ix_list (pv 0) pe_int (fun _ _ => rfl)) pa_nil)) (pv 1)))
        (pss_cons
          (ps_asg (pe_op op_fdivW (pe_ix ix_list (pv 0) pe_int (fun _ _ => rfl)) (pv 1)) (pg_sub (pv 0) pe_int set_list))
        (pss_one
          (ps_ret (pv 2)))))
        pss_nil)
    (pss_cons
      (ps_asg (pe_op op_mod (pe_op op_mul (pe_ix ix_list (pv 0) pe_int (fun _ _ => rfl)) pe_int) pe_int) (pg_sub (pv 0) pe_int set_list))
    (pss_one
      (ps_ret (pe_op op_mod (pe_op op_fdiv (pe_op op_add (pe_op op_mod (pe_op op_mul (pe_ix ix_list (pv 0) pe_int (fun _ _ => rfl)) (pe_ix ix_list (pv 0) pe_int (fun _ _ => rfl))) pe_int) (pe_op op_fdiv (pe_ix ix_list (pv 0) pe_int (fun _ _ => rfl)) pe_int)) pe_int) (pv 1))))))), ?_⟩
    have dg := hD.ne
    obtain ⟨gs, a, m, hd, hg, gl, g0, a0, m0, m1⟩ := hD
    refine ⟨fun t σ H' => ∃ (gs : List Int) (a : Int), gs.length = t ∧ σ = [some (.ref d), some (.int n), none] ∧ H' d = some (.lst [.ref g, .int a, .int m]) ∧ H' g = some (.lst (gs.map V.int)) ∧ gs.length ≤ 63 ∧ (∀ x ∈ gs, 0 ≤ x) ∧ 0 ≤ a ∧ Kd d g H H',
      ⟨_, gs, a, rfl, rfl, hd, hg, gl, g0, a0, Kd.refl H⟩, ?_⟩
    clear hd hg gl g0 a0 gs a
    rintro t σ H1 ⟨gs, a, tl, rfl, hd, hg, gl, g0, a0, kd⟩
    refine ⟨_, rfl, d, _, _, _, rfl, rfl, .of hd, atI_nat (j := 1) rfl, _, _, rfl, rfl, _, rfl, ite2 (fun c1 => ?_) (fun c1 => ?_)⟩
    · refine ⟨_, rfl, d, _, _, _, rfl, rfl, .of hd, atI_nat (j := 0) rfl, g, _, rfl, .inl (.of hg), _, _, rfl, rfl, _, rfl, ite2 (fun c2 => ?_) (fun c2 => ?_)⟩
      · have c3 : 0 < gs.length := by
          have : (0 : Int) < ((gs.map V.int).length : Int) := of_decide_eq_true c2
          rw [List.length_map] at this
          omega
        have hz : gs[gs.length - 1]? = some gs[gs.length - 1] := List.getElem?_eq_getElem (by omega)
        have hm := List.mem_of_getElem? hz
        generalize gs[gs.length - 1] = z at hz hm
        refine ⟨fun σ' H' => ∃ (gs : List Int) (a : Int), gs.length < t ∧ σ' = [some (.ref d), some (.int n), none] ∧ H' d = some (.lst [.ref g, .int a, .int m]) ∧ H' g = some (.lst (gs.map V.int)) ∧ gs.length ≤ 63 ∧ (∀ x ∈ gs, 0 ≤ x) ∧ 0 ≤ a ∧ Kd d g H H',
          fun σ' H' ⟨gs, a, h1, h2⟩ => ⟨_, h1, gs, a, rfl, h2⟩, ?_⟩
        refine ⟨_, rfl, d, _, _, _, rfl, rfl, .of hd, atI_nat (j := 0) rfl, .inl ⟨rfl, _, .of hg⟩, g, gs.map V.int, V.int z, rfl, rfl, hg, ?_, _, rfl, d, [.ref g, .int a, .int m], _, 1, rfl, rfl, ?_, rfl, gs.dropLast, z, ?_, rfl, ?_, ?_, ?_, ?_, g0 z hm, fun b o e n1 n2 => ?_⟩
        · rw [List.length_map, List.getElem?_map, hz]; rfl
        · rw [upd_ne dg]; exact hd
        · rw [List.length_dropLast]; omega
        · rw [upd_same]; rfl
        · rw [upd_ne dg.symm, upd_same, List.map_dropLast]
        · rw [List.length_dropLast]; omega
        · exact fun x hx => g0 x (List.dropLast_subset gs hx)
        · rw [upd_ne n1, upd_ne n2]; exact kd b o e n1 n2
      · refine ⟨_, rfl, d, _, _, _, rfl, rfl, .of hd, atI_nat (j := 1) rfl, _, _, rfl, rfl, _, rfl, iteND (by have : a < 2 := of_decide_eq_true c1; omega) ?_⟩
        have bm : -(2 ^ 64) < m ∧ m < 2 ^ 64 := ⟨by omega, by omega⟩
        have b0 : 0 ≤ m * 48271 % 2147483647 := Int.emod_nonneg _ (by decide)
        have b1 : m * 48271 % 2147483647 < 2147483647 := Int.emod_lt_of_pos _ (by decide)
        have bn : -(2 ^ 64) < m * 48271 % 2147483647 ∧ m * 48271 % 2147483647 < 2 ^ 64 := ⟨by omega, by omega⟩
        refine ⟨_, rfl, d, _, _, _, rfl, rfl, .of hd, atI_nat (j := 2) rfl, _, _, rfl, rfl, .inl bm, _, _, rfl, rfl, (by show (0 : Int) < 2147483647; decide), _, rfl, d, [.ref g, .int a, .int m], _, 2, rfl, rfl, hd, rfl, ?_⟩
        have e2 : (upd H1 d (.lst ([V.ref g, V.int a, V.int m].set 2 (V.int (m * 48271 % 2147483647))))) d = some (.lst [V.ref g, V.int a, V.int (m * 48271 % 2147483647)]) := upd_same
        refine ⟨_, rfl, d, _, _, _, rfl, rfl, .of e2, atI_nat (j := 2) rfl, _, rfl, d, _, _, _, rfl, rfl, .of e2, atI_nat (j := 2) rfl, _, _, rfl, rfl, .inl bn, _, _, rfl, rfl, (by show (0 : Int) < 2147483629; decide), _, rfl, d, _, _, _, rfl, rfl, .of e2, atI_nat (j := 2) rfl, _, _, rfl, rfl, ⟨by decide, by decide⟩, _, _, rfl, rfl, _, _, rfl, rfl, ⟨by decide, by decide⟩, _, rfl, _, _, rfl, rfl, hn, ?_⟩
        refine k _ _ (Int.emod_nonneg _ (by omega)) (Int.emod_lt_of_pos _ hn) ⟨gs, a, m * 48271 % 2147483647, e2, ?_, gl, g0, a0, b0, by omega⟩ fun b o e n1 n2 => ?_
        · rw [upd_ne dg.symm]; exact hg
        · rw [upd_ne n1]; exact kd b o e n1 n2
    · have c2 : ¬ a < 2 := fun z => c1 (decide_eq_true z)
      refine ⟨_, rfl, d, _, _, _, rfl, rfl, .of hd, atI_nat (j := 1) rfl, _, _, rfl, rfl, _, rfl, iteD (by omega) ?_⟩
      refine ⟨_, rfl, d, _, _, _, rfl, rfl, .of hd, atI_nat (j := 1) rfl, .inl ⟨_, rfl, _, rfl, _, _, rfl, rfl, hn, ?_⟩⟩
      refine ⟨_, rfl, d, _, _, _, rfl, rfl, .of hd, atI_nat (j := 1) rfl, _, rfl, _, _, rfl, rfl, ⟨hn, hl⟩, _, rfl, d, [.ref g, .int a, .int m], _, 1, rfl, rfl, hd, rfl, ?_⟩
      refine ⟨_, rfl, k _ _ (Int.emod_nonneg _ (by omega)) (Int.emod_lt_of_pos _ hn) ⟨gs, a / n, m, upd_same, ?_, gl, g0, Int.ediv_nonneg a0 (by omega), m0, m1⟩ fun b o e n1 n2 => ?_⟩
      · rw [upd_ne dg.symm]; exact hg
      · rw [upd_ne n1]; exact kd b o e n1 n2
/-! ### names -/
theorem Deck.same {H H' : Hp} {d g : Addr} (s : Same H H') (h : Deck H d g) : Deck H' d g := by
  obtain ⟨gs, a, m, h1, h2, h3⟩ := h
  exact ⟨gs, a, m, s _ _ h1, s _ _ h2, h3⟩
theorem Deck.at {H : Hp} {d g : Addr} (h : Deck H d g) : (∃ o, H d = some o) ∧ ∃ o, H g = some o := by
  obtain ⟨gs, a, m, h1, h2, h3⟩ := h
  exact ⟨⟨_, h1⟩, _, h2⟩
theorem Deck.new {H : Hp} {d g p : Addr} (h : Deck H d g) (hp : H p = none) : p ≠ d ∧ p ≠ g := by
  obtain ⟨⟨o, h1⟩, u, h2⟩ := h.at
  exact ⟨(ne_of_none h1 hp).symm, (ne_of_none h2 hp).symm⟩
theorem Kd.free {d g p : Addr} {H H' : Hp} (k : Kd d g H H') (h : H' p = none) (n1 : p ≠ d) (n2 : p ≠ g) : H p = none := by
  cases q : H p with
  | none => rfl
  | some o =>
    rw [k p o q n1 n2] at h
    cases h
def ltr : Str := "abcdefghijklmnopqrstuvwxyz"
theorem ltr_l : ltr.cps.toList = [97, 98, 99, 100, 101, 102, 103, 104, 105, 106, 107, 108, 109, 110, 111, 112, 113, 114, 115, 116, 117, 118, 119, 120, 121, 122] := by decide +kernel
theorem ltr_at : ∀ r : Nat, r < 26 → ltr.cps.toList[r]? = some (97 + r) := by
  rw [ltr_l]
  decide
theorem ltr_len : ltr.length ≤ sizeLine := by
  rw [len_l, ltr_l]
  show 26 ≤ sizeLine
  decide
def wrd : List Str := ["before", "upto", "same", "apart", "far", "next", "first", "last"]
theorem wrd_nm : ∀ z ∈ wrd, Nm z := by
  have h : ∀ z ∈ wrd, 1 ≤ z.length ∧ z.length ≤ 8 ∧ ∀ c ∈ z.cps.toList, 97 ≤ c ∧ c ≤ 122 := by decide +kernel
  exact fun z hz => ⟨(h z hz).1, (h z hz).2.1, (h z hz).2.2⟩
def one (c : Nat) : Str := ⟨#[c]⟩
theorem l_app (x y : Str) : (x ++ y).cps.toList = x.cps.toList ++ y.cps.toList := TL.tl_append x y
theorem l_cutT (z : Str) (i : Nat) : (cutS z none (some (i : Int))).cps.toList = z.cps.toList.take i := by
  show (z.cps.toList.drop 0).take (HT.sIx z.length z.length (some (i : Int)) - 0) = _
  rw [show HT.sIx z.length z.length (some (i : Int)) = min i z.length from HT.sIx_nat _ _ i, List.drop_zero, Nat.sub_zero, len_l]
  by_cases h : i ≤ z.cps.toList.length
  · rw [Nat.min_eq_left h]
  · rw [Nat.min_eq_right (by omega), List.take_of_length_le (Nat.le_refl _), List.take_of_length_le (by omega)]
theorem l_cutD (z : Str) (i : Nat) : (cutS z (some (i : Int)) none).cps.toList = z.cps.toList.drop i := by
  show (z.cps.toList.drop (HT.sIx z.length 0 (some (i : Int)))).take (z.length - HT.sIx z.length 0 (some (i : Int))) = _
  rw [show HT.sIx z.length 0 (some (i : Int)) = min i z.length from HT.sIx_nat _ _ i, len_l]
  by_cases h : i ≤ z.cps.toList.length
  · rw [Nat.min_eq_left h]
    exact List.take_of_length_le (by rw [List.length_drop]; exact Nat.le_refl _)
  · rw [Nat.min_eq_right (by omega), Nat.sub_self, List.take_zero, List.drop_eq_nil_of_le (by omega)]
theorem joinL_one : ∀ cs : List Nat, TL.joinL [] (cs.map fun c => [c]) = cs
  | [] => rfl
  | [_] => rfl
  | a :: b :: r => by
    have ih := joinL_one (b :: r)
    show [a] ++ ([] ++ TL.joinL [] ((b :: r).map fun c => [c])) = a :: b :: r
    rw [ih]
    rfl
theorem l_join (cs : List Nat) : (Txt.join ("" : Str) (cs.map one)).cps.toList = cs := by
  rw [TL.join_eq]
  show TL.tl _ = _
  rw [TL.tl_join, List.map_map]
  exact joinL_one cs
theorem join_room (cs : List Nat) (h : cs.length ≤ 1000) : ((cs.map one).map (·.length)).sum + (cs.map one).length * ("" : Str).length ≤ 16777216 := by
  have e : ((cs.map one).map (·.length)).sum = cs.length := by
    clear h
    induction cs with
    | nil => rfl
    | cons a r ih =>
      rw [List.map_cons, List.map_cons, List.sum_cons, ih, List.length_cons]
      show 1 + r.length = _
      omega
  rw [e, show ("" : Str).length = 0 from by decide +kernel]
  omega
theorem nodup_le : ∀ {l m : List Str}, l.Nodup → (∀ x ∈ l, x ∈ m) → l.length ≤ m.length
  | [], _, _, _ => Nat.zero_le _
  | a :: r, m, nd, h => by
    have ha := h a List.mem_cons_self
    have nd2 := List.nodup_cons.mp nd
    have ih := nodup_le (l := r) (m := m.erase a) nd2.2 fun x hx => (List.mem_erase_of_ne (fun e : x = a => nd2.1 (e ▸ hx))).mpr (h x (List.mem_cons_of_mem _ hx))
    rw [List.length_erase_of_mem ha] at ih
    have := List.length_pos_of_mem ha
    rw [List.length_cons]
    omega
theorem ltr_free {ts : List Str} (h : ts.length < 26) : ∃ c r, ltr.cps.toList.filter (fun c => decide (one c ∉ ts)) = c :: r := by
  cases e : ltr.cps.toList.filter (fun c => decide (one c ∉ ts)) with
  | cons c r => exact ⟨c, r, rfl⟩
  | nil =>
    exfalso
    have h1 : ∀ x ∈ ltr.cps.toList.map one, x ∈ ts := fun x hx => by
      obtain ⟨c, hc, rfl⟩ := List.mem_map.mp hx
      have := List.filter_eq_nil_iff.mp e c hc
      simpa using this
    have h2 : (ltr.cps.toList.map one).Nodup := by
      rw [ltr_l]
      decide +kernel
    have := nodup_le h2 h1
    rw [List.length_map, ltr_l] at this
    have h3 : 26 ≤ ts.length := this
    omega
theorem nm_one {c : Nat} (h1 : 97 ≤ c) (h2 : c ≤ 122) : Nm (one c) := ⟨by show 1 ≤ 1; decide, by show 1 ≤ 8; decide, fun x hx => by
  have : x = c := by simpa [one] using hx
  omega⟩
/-- [letters[draw(26)] for .. in range(n)]: the deck in slot 0, the letters in slot 2, the comprehension's own name in slot j -/
theorem lc_letters {σ : L2.St} {H : Hp} {j : Nat} {d g D : Addr} {n : Nat} {Qd : Hp → Prop} (hn : n ≤ 1000) (s0 : σ[0]? = some (some (.ref d))) (s2 : σ[2]? = some (some (.str ltr))) (j0 : j ≠ 0) (j2 : j ≠ 2) (hD : Deck H d g) (nD : H D = none)
    (q : ∀ (H' : Hp) (cs : List Nat), Deck H' d g → Kd d g H H' → H' D = some (.lst ((cs.map one).map V.str)) → cs.length = n → (∀ c ∈ cs, 97 ≤ c ∧ c ≤ 122) → Qd H') :
    ∃ W : Nat → Nat → Hp → Prop, (∃ m, W 0 m (upd H D (.lst []))) ∧ ∀ i m H, W i m H →
      ((Itr 0 n).stop i H ∧ Qd H) ∨ ((Itr 0 n).go i H ∧ ∃ Nx : Hp → Prop, (∀ H', Nx H' → ∃ m', m' < m ∧ W (i + 1) m' H') ∧ ∀ x H', (Itr 0 n).yld i H x H' → gName j x (wipe σ [j]) H' fun σ2 H2 => wipe σ2 [j] = wipe σ [j] ∧ tYes σ2 H2 fun b H3 =>
        if b = true then (tOp rIxS (tVar 2) (tCall sp_draw [] E0 (tCons (tVar 0) (tCons (tC (.int 26)) tNil)))) σ2 H3 fun y H4 => ∃ acc, H4 D = some (.lst acc) ∧ acc.length < sizeLine ∧ Nx (upd H4 D (.lst (acc ++ [y]))) else Nx H3) := by
  have nD2 := hD.new nD
  refine lc_range (lo := 0) (n := n) (fun i H' => ∃ cs : List Nat, Deck H' d g ∧ Kd d g H H' ∧ H' D = some (.lst ((cs.map one).map V.str)) ∧ cs.length = i ∧ ∀ c ∈ cs, 97 ≤ c ∧ c ≤ 122) ?_ ?_ ?_
  · exact ⟨[], hD.same (same_upd nD), Same.kd (same_upd nD), upd_same, rfl, fun _ h => absurd h List.not_mem_nil⟩
  · rintro i H1 hi ⟨cs, hD1, k1, eD, hl, low⟩
    have w : wipe ((wipe σ [j]).set j (some (.int (0 + (i : Int))))) [j] = wipe σ [j] := by
      show (((σ.set j none).set j (some (.int (0 + (i : Int))))).set j none) = σ.set j none
      rw [List.set_set, List.set_set]
    have t0 : ((wipe σ [j]).set j (some (.int (0 + (i : Int)))))[0]? = some (some (.ref d)) := by
      show ((σ.set j none).set j _)[0]? = _
      rw [List.getElem?_set_ne j0, List.getElem?_set_ne j0]
      exact s0
    have t2 : ((wipe σ [j]).set j (some (.int (0 + (i : Int)))))[2]? = some (some (.str ltr)) := by
      show ((σ.set j none).set j _)[2]? = _
      rw [List.getElem?_set_ne j2, List.getElem?_set_ne j2]
      exact s2
    refine ⟨w, _, t2, _, t0, d, g, 26, rfl, hD1, by decide, by decide +kernel, fun r H2 r0 r1 hD2 k2 => ?_⟩
    obtain ⟨m, rfl⟩ := Int.eq_ofNat_of_zero_le r0
    refine ⟨ltr, m, 97 + m, rfl, rfl, ltr_len, atI_nat (ltr_at m (by omega)), (cs.map one).map V.str, k2 _ _ eD nD2.1 nD2.2, ?_, cs ++ [97 + m], ?_, ?_, ?_, ?_, ?_⟩
    · rw [List.length_map, List.length_map]; exact small1000 (by omega)
    · obtain ⟨gs, a, mm, h1, h2, h3⟩ := hD2
      exact ⟨gs, a, mm, by rw [upd_ne nD2.1.symm]; exact h1, by rw [upd_ne nD2.2.symm]; exact h2, h3⟩
    · intro b o e n1 n2
      rw [upd_ne (ne_of_none e nD)]
      exact k2 b o (k1 b o e n1 n2) n1 n2
    · rw [upd_same, List.map_append, List.map_append]; rfl
    · rw [List.length_append, hl]; rfl
    · intro c hc
      rcases List.mem_append.mp hc with h | h
      · exact low c h
      · have := List.mem_singleton.mp h
        omega
  · rintro H1 ⟨cs, hD1, k1, eD, hl, low⟩
    exact q H1 cs hD1 k1 eD hl low
/-- what stands while names are found -/
structure NSt (H0 H' : Hp) (d g F W : Addr) (ts : List Str) : Prop where
  dk : Deck H' d g
  kd : Kd d g H0 H'
  eF : H' F = some (.lst (ts.map V.str))
  eW : H' W = some (.lst (wrd.map V.str))
  fF : H0 F = none
  nF : F ≠ d ∧ F ≠ g
  nW : W ≠ d ∧ W ≠ g
theorem NSt.draw {H0 H1 H2 : Hp} {d g F W : Addr} {ts : List Str} (n : NSt H0 H1 d g F W ts) (h : Deck H2 d g) (k : Kd d g H1 H2) : NSt H0 H2 d g F W ts :=
  ⟨h, n.kd.trans k, k _ _ n.eF n.nF.1 n.nF.2, k _ _ n.eW n.nW.1 n.nW.2, n.fF, n.nF, n.nW⟩
theorem nm_mid {st : Str} {a r : Nat} (low : Low st) (hl : st.length ≤ 7) (ha : a ≤ st.length) (hr : r < 26) : Nm ((cutS st none (some (a : Int)) ++ one (97 + r)) ++ cutS st (some (a : Int)) none) := by
  have e : ((cutS st none (some (a : Int)) ++ one (97 + r)) ++ cutS st (some (a : Int)) none).cps.toList = (st.cps.toList.take a ++ [97 + r]) ++ st.cps.toList.drop a := by
    rw [l_app, l_app, l_cutT, l_cutD]
    rfl
  rw [len_l] at hl ha
  refine ⟨?_, ?_, fun c hc => ?_⟩
  · rw [len_l, e, List.length_append, List.length_append, List.length_take, List.length_drop, List.length_singleton]; omega
  · rw [len_l, e, List.length_append, List.length_append, List.length_take, List.length_drop, List.length_singleton]; omega
  · rw [e] at hc
    rcases List.mem_append.mp hc with h | h
    · rcases List.mem_append.mp h with h | h
      · exact low c (List.mem_of_mem_take h)
      · have := List.mem_singleton.mp h
        omega
    · exact low c (List.mem_of_mem_drop h)
theorem nm_q {st : Str} {a : Nat} (low : Low st) (hl : st.length ≤ 7) (ha : a ≤ st.length) : Nm (cutS (st ++ ("q" : Str)) none (some (1 + (a : Int)))) := by
  have e : (cutS (st ++ ("q" : Str)) none (some (1 + (a : Int)))).cps.toList = (st.cps.toList ++ [113]).take (1 + a) := by
    have h := l_cutT (st ++ ("q" : Str)) (1 + a)
    rw [show ((1 + a : Nat) : Int) = 1 + (a : Int) by omega] at h
    rw [h, l_app, show ("q" : Str).cps.toList = [113] by decide +kernel]
  rw [len_l] at hl ha
  refine ⟨?_, ?_, fun c hc => ?_⟩
  · rw [len_l, e, List.length_take, List.length_append, List.length_singleton]; omega
  · rw [len_l, e, List.length_take, List.length_append, List.length_singleton]; omega
  · rw [e] at hc
    rcases List.mem_append.mp (List.mem_of_mem_take hc) with h | h
    · exact low c h
    · have := List.mem_singleton.mp h
      omega
theorem str_line {n : Nat} (h : n ≤ 1000) : n ≤ sizeLine := Nat.le_of_lt (small1000 h)
def sp_names : Sp := fun vs H Q _ => ∃ (d g : Addr) (n : Nat), vs = [.ref d, .int n] ∧ Deck H d g ∧ 0 < n ∧ n ≤ 12 ∧
  ∀ (p : Addr) (ts : List Str) (H' : Hp), Deck H' d g → Kd d g H H' → H p = none → H' p = some (.lst (ts.map V.str)) → p ≠ d → p ≠ g → ts.length = n → (∀ z ∈ ts, Nm z) → ts.Nodup → Q (.ref p) H'
theorem ok_law_names (T : Tx K w mg) : FnOk P w K mg base CX0 2 T.f_law_names T.d_law_names ["deck", "many"] sp_names := by
  refine T.F_law_names.ok sc_law_names (fun vs H Q E h => ?_) (fun cdv A outer s H vs Q E hr h => ?_)
  · obtain ⟨d, g, n, rfl, _⟩ := h
    rfl
  · obtain ⟨d, g, n, rfl, hD, hn, hl, k⟩ := h
    refine ⟨_,
    (pss_cons
      (ps_set (i := 2) sc_law_names.nd rfl (.inr rfl) pe_str)
    (pss_cons
      (ps_set (i := 3) sc_law_names.nd rfl (.inl rfl) (pe_lst (pa_cons pe_str (pa_cons pe_str (pa_cons pe_str (pa_cons pe_str (pa_cons pe_str (pa_cons pe_str (pa_cons pe_str (pa_cons pe_str pa_nil))))))))))
    (pss_cons
      (ps_set (i := 4) sc_law_names.nd rfl (.inl rfl) (pe_call (ok_law_draw T) hr (by rfl) T.g_law_draw T.F_law_draw.kp T.b_law_draw .nil pass0 (pa_cons (pv 0) (pa_cons pe_int pa_nil))))
    (pss_cons
      (ps_set (i := 5) sc_law_names.nd rfl (.inl rfl) (pe_join pe_str (pe_lc (own := [("k", 7)]) (g := gName 7) rfl sc_law_names.nd (pi_range1 (by rfl) T.m_range (pa_cons (pe_call (ok_law_draw T) hr (by rfl) T.g_law_draw T.F_law_draw.kp T.b_law_draw .nil pass0 (pa_cons (pv 0) (pa_cons pe_int pa_nil))) pa_nil)) (blkOk_by (N := ["deck", "many", "letters", "words", "way", "stem", "found", "k", "at", "name", "m", "one"]) (sc := defScope s_law_names) (own := [("k", 7)]) (by decide +kernel)) (fun _ _ _ _ _ => (pg_name (i := 7) sc_law_names.nd rfl (.inl rfl))) (fun _ _ _ _ _ => pts_nil) (fun _ _ _ _ _ => (pe_ix ix_str (pv 2) (pe_call (ok_law_draw T) hr (by rfl) T.g_law_draw T.F_law_draw.kp T.b_law_draw .nil pass0 (pa_cons (pv 0) (pa_cons pe_int pa_nil))) (fun _ _ => rfl))))))
    (pss_cons
      (ps_set (i := 6) sc_law_names.nd rfl (.inr rfl) (pe_lst pa_nil))
    (pss_cons
      (ps_for PassesOwn.never rfl (pi_range1 (by rfl) T.m_range (pa_cons (pv 1) pa_nil)) (pg_name (i := 7) sc_law_names.nd rfl (.inl rfl))
        (pss_cons
          (ps_set (i := 8) sc_law_names.nd rfl (.inl rfl) (pe_call (ok_law_draw T) hr (by rfl) T.g_law_draw T.F_law_draw.kp T.b_law_draw .nil pass0 (pa_cons (pv 0) (pa_cons (pe_op op_add (pe_callB call_len_str (by rfl) T.m_len (by decide +kernel) (pa_cons (pv 5) pa_nil)) pe_int) pa_nil))))
        (pss_cons
          (ps_set (i := 9) sc_law_names.nd rfl (.inl rfl) (pe_op op_add_str (pe_op op_add_str (pe_slice sl_str (pv 5) po_none (po_some (pv 8))) (pe_ix ix_str (pv 2) (pe_call (ok_law_draw T) hr (by rfl) T.g_law_draw T.F_law_draw.kp T.b_law_draw .nil pass0 (pa_cons (pv 0) (pa_cons pe_int pa_nil))) (fun _ _ => rfl))) (pe_slice sl_str (pv 5) (po_some (pv 8)) po_none)))
        (C8.pss_cut
          (ps_if (pt_cmpR op_eq (pv 4) pe_int (nomark _))
            (pss_one
              (ps_set (i := 9) sc_law_names.nd rfl (.inl rfl) (pe_slice sl_str (pe_op op_add_str (pv 5) pe_str) po_none (po_some (pe_op op_add pe_int (pv 8))))))
            pss_nil)
        (C8.pss_cut
          (ps_if (pt_cmpR op_eq (pv 4) pe_int (nomark _))
            (pss_one
              (ps_set (i := 9) sc_law_names.nd rfl (.inl rfl) (pe_ix ix_list (pv 3) (pe_call (ok_law_draw T) hr (by rfl) T.g_law_draw T.F_law_draw.kp T.b_law_draw .nil pass0 (pa_cons (pv 0) (pa_cons pe_int pa_nil))) (fun _ _ => rfl))))
            pss_nil)
        (C8.pss_cut
          (ps_if (pt_cmpR op_eq (pv 4) pe_int (nomark _))
            (pss_one
              (ps_set (i := 9) sc_law_names.nd rfl (.inl rfl) (pe_join pe_str (pe_lc (own := [("m", 10)]) (g := gName 10) rfl sc_law_names.nd (pi_range1 (by rfl) T.m_range (pa_cons (pe_op op_add pe_int (pe_call (ok_law_draw T) hr (by rfl) T.g_law_draw T.F_law_draw.kp T.b_law_draw .nil pass0 (pa_cons (pv 0) (pa_cons pe_int pa_nil)))) pa_nil)) (blkOk_by (N := ["deck", "many", "letters", "words", "way", "stem", "found", "k", "at", "name", "m", "one"]) (sc := defScope s_law_names) (own := [("m", 10)]) (by decide +kernel)) (fun _ _ _ _ _ => (pg_name (i := 10) sc_law_names.nd rfl (.inl rfl))) (fun _ _ _ _ _ => pts_nil) (fun _ _ _ _ _ => (pe_ix ix_str (pv 2) (pe_call (ok_law_draw T) hr (by rfl) T.g_law_draw T.F_law_draw.kp T.b_law_draw .nil pass0 (pa_cons (pv 0) (pa_cons pe_int pa_nil))) (fun _ _ => rfl)))))))
            pss_nil)
        (C8.pss_cut
          (ps_if (pt_cmpR op_in_seq (pv 9) (pv 6) (by rfl))
            (pss_one
              (ps_set (i := 9) sc_law_names.nd rfl (.inl rfl) (pe_ix ix_list (pe_lc (own := [("one", 11)]) (g := gName 11) rfl sc_law_names.nd (pi_str (pv 2)) (blkOk_by (N := ["deck", "many", "letters", "words", "way", "stem", "found", "k", "at", "name", "m", "one"]) (sc := defScope s_law_names) (own := [("one", 11)]) (by decide +kernel)) (fun _ _ _ _ _ => (pg_name (i := 11) sc_law_names.nd rfl (.inl rfl))) (fun _ _ _ _ _ => (pts_one (pt_cmpR (r := rIn K true) op_notIn_seq (pv 11) (pv 6) (by rfl)))) (fun _ _ _ _ _ => (pv 11))) pe_int (fun _ _ => rfl))))
            pss_nil)
        (pss_one
          (ps_expr (pe_bm PySem.F.plainAttrs_list PySem.F.slot_list_append PySem.F.type_list_append mt_append (pv 6) (pa_cons (pv 9) pa_nil)))))))))))
    (pss_one
      (ps_ret (pv 6))))))))), ?_⟩
    refine ⟨(by show 8 ≤ sizeLine; decide), fun W hW => ?_⟩
    have nW := hD.new hW
    refine ⟨_, rfl, d, g, 4, rfl, hD.same (same_upd hW), by decide, by decide +kernel, fun way H2 w0 w1 hD2 k2 => ?_⟩
    have eW : H2 W = some (.lst (wrd.map V.str)) := k2 _ _ upd_same nW.1 nW.2
    -- stem
    refine ⟨⟨_, rfl⟩, _, rfl, d, g, 8, rfl, hD2, by decide, by decide +kernel, fun m H3 m0 m1 hD3 k3 => ⟨_, rfl, by omega, by omega, fun J hJ => ?_⟩⟩
    refine lc_letters (n := m.toNat) (by omega) rfl rfl (by decide) (by decide) hD3 hJ fun H4 cs hD4 k4 eJ cl low => ?_
    refine ⟨_, J, cs.map one, rfl, rfl, .inl (.of eJ), join_room cs (by omega), ?_⟩
    have ls : Low (Txt.join ("" : Str) (cs.map one)) := fun c hc => by rw [l_join] at hc; exact low c hc
    have ll : (Txt.join ("" : Str) (cs.map one)).length ≤ 7 := by rw [len_l, l_join]; omega
    generalize hst : Txt.join ("" : Str) (cs.map one) = st at ls ll
    -- found = []
    refine ⟨Nat.zero_le _, fun F hF => ?_⟩
    have k0 : Kd d g H H4 := (Same.kd (same_upd hW)).trans (k2.trans (k3.trans k4))
    have eW4 := k4 _ _ (k3 _ _ eW nW.1 nW.2) nW.1 nW.2
    have nF := hD4.new hF
    have WF : W ≠ F := ne_of_none eW4 hF
    have fF : H F = none := k0.free hF nF.1 nF.2
    have n0 : NSt H (upd H4 F (.lst [])) d g F W [] := ⟨hD4.same (same_upd hF), k0.trans (Same.kd (same_upd hF)), upd_same, by rw [upd_ne WF]; exact eW4, fF, nF, nW⟩
    generalize upd H4 F (.lst []) = H5 at n0
    clear eW eW4 k0 k2 k3 k4 hD2 hD3 hD4 hF eJ
    refine ⟨_, rfl, _, rfl, by omega, by omega, for_range (n := _) (fun i σ H' => ∃ (ts : List Str) (x7 x8 x9 : Option V), σ = [some (.ref d), some (.int (n : Int)), some (.str ltr), some (.ref W), some (.int way), some (.str st), some (.ref F), x7, x8, x9, none, none] ∧
      NSt H H' d g F W ts ∧ ts.length = i ∧ (∀ z ∈ ts, Nm z) ∧ ts.Nodup) ⟨[], none, none, none, rfl, n0, rfl, (fun _ h => absurd h List.not_mem_nil), List.nodup_nil⟩ ?_ ?_⟩
    · rintro i σ H6 hi ⟨ts, x7, x8, x9, rfl, n6, tl, tn, td⟩
      have hi12 : i < 12 := by
        have : i < ((n : Int)).toNat := hi
        omega
      -- at, name
      refine ⟨_, rfl, _, rfl, _, rfl, str_line (by omega), _, _, rfl, rfl, d, g, _, rfl, n6.dk, ?_, ?_, fun a H7 a0 a1 hD7 k7 => ?_⟩
      · show (0 : Int) < (st.length : Int) + 1
        omega
      · exact small_log (by show ((st.length : Int) + 1).natAbs < 1024; omega)
      have a2 : a < (st.length : Int) + 1 := a1
      obtain ⟨a, rfl⟩ := Int.eq_ofNat_of_zero_le a0
      have n7 := n6.draw hD7 k7
      refine ⟨_, rfl, _, rfl, _, rfl, st, rfl, str_line (by omega), _, rfl, _, rfl, d, g, 26, rfl, n7.dk, by decide, by decide +kernel, fun r H8 r0 r1 hD8 k8 => ?_⟩
      obtain ⟨r, rfl⟩ := Int.eq_ofNat_of_zero_le r0
      have n8 := n7.draw hD8 k8
      have nz := nm_mid (st := st) (a := a) (r := r) ls ll (by omega) (by omega)
      have c1 := cutS_length st none (some (a : Int))
      have c2 := cutS_length st (some (a : Int)) none
      refine ⟨ltr, r, 97 + r, rfl, rfl, ltr_len, atI_nat (ltr_at r (by omega)), _, _, rfl, rfl, str_line (by show _ + 1 ≤ 1000; omega), _, rfl, _, rfl, _, rfl, st, rfl, str_line (by omega), _, _, rfl, rfl, str_line ?_, ?_⟩
      · have h1 := nz.few
        rw [len_l, l_app, List.length_append, ← len_l, ← len_l] at h1
        exact Nat.le_trans h1 (by decide)
      refine ⟨fun σ' H' => ∃ z, σ' = [some (.ref d), some (.int (n : Int)), some (.str ltr), some (.ref W), some (.int way), some (.str st), some (.ref F), some (.int (0 + (i : Int))), some (.int (a : Int)), some (.str z), none, none] ∧ NSt H H' d g F W ts ∧ Nm z, ?_, ?_⟩
      · refine ⟨_, rfl, rfl, _, rfl, ite2 (fun c => ?_) (fun c => ⟨(cutS st none (some (a : Int)) ++ one (97 + r)) ++ cutS st (some (a : Int)) none, rfl, n8, nz⟩)⟩
        refine ⟨_, rfl, _, _, rfl, rfl, str_line (by show _ + 1 ≤ 1000; omega), _, rfl, _, _, rfl, rfl, _, rfl, _, rfl, str_line ?_, _, rfl, n8, nm_q ls ll (by omega)⟩
        rw [len_l, l_app, List.length_append, ← len_l]
        show st.length + 1 ≤ 1000
        omega
      clear nz n8 n7 n6 hD7 hD8 k7 k8 c1 c2
      rintro σ H9 ⟨z, rfl, n9, nz⟩
      refine ⟨fun σ' H' => ∃ z, σ' = [some (.ref d), some (.int (n : Int)), some (.str ltr), some (.ref W), some (.int way), some (.str st), some (.ref F), some (.int (0 + (i : Int))), some (.int (a : Int)), some (.str z), none, none] ∧ NSt H H' d g F W ts ∧ Nm z, ?_, ?_⟩
      · refine ⟨_, rfl, rfl, _, rfl, ite2 (fun c => ?_) (fun c => ⟨z, rfl, n9, nz⟩)⟩
        refine ⟨_, rfl, _, rfl, d, g, 8, rfl, n9.dk, by decide, by decide +kernel, fun r H10 r0 r1 hD10 k10 => ?_⟩
        obtain ⟨r, rfl⟩ := Int.eq_ofNat_of_zero_le r0
        have n10 := n9.draw hD10 k10
        have hr8 : r < wrd.length := by show r < 8; omega
        exact ⟨W, _, _, V.str wrd[r], rfl, rfl, .of n10.eW, atI_nat (by rw [List.getElem?_map, List.getElem?_eq_getElem hr8]; rfl), _, rfl, n10, wrd_nm _ (List.getElem_mem hr8)⟩
      clear nz n9
      clear z H9
      rintro σ H9 ⟨z, rfl, n9, nz⟩
      refine ⟨fun σ' H' => ∃ z, σ' = [some (.ref d), some (.int (n : Int)), some (.str ltr), some (.ref W), some (.int way), some (.str st), some (.ref F), some (.int (0 + (i : Int))), some (.int (a : Int)), some (.str z), none, none] ∧ NSt H H' d g F W ts ∧ Nm z, ?_, ?_⟩
      · refine ⟨_, rfl, rfl, _, rfl, ite2 (fun c => ?_) (fun c => ⟨z, rfl, n9, nz⟩)⟩
        refine ⟨⟨_, rfl⟩, _, rfl, d, g, 8, rfl, n9.dk, by decide, by decide +kernel, fun m2 H10 m20 m21 hD10 k10 => ⟨_, _, rfl, rfl, _, rfl, by omega, by omega, fun J2 hJ2 => ?_⟩⟩
        have n10 := n9.draw hD10 k10
        refine lc_letters (n := (1 + m2).toNat) (by omega) rfl rfl (by decide) (by decide) n10.dk hJ2 fun H11 cs2 hD11 k11 eJ2 cl2 low2 => ?_
        refine ⟨_, J2, cs2.map one, rfl, rfl, .inl (.of eJ2), join_room cs2 (by omega), _, rfl, n10.draw hD11 k11, ?_, ?_, ?_⟩
        · rw [len_l, l_join]; omega
        · rw [len_l, l_join]; omega
        · intro c hc
          rw [l_join] at hc
          exact low2 c hc
      clear nz n9
      clear z H9
      rintro σ H9 ⟨z, rfl, n9, nz⟩
      refine ⟨fun σ' H' => ∃ z, σ' = [some (.ref d), some (.int (n : Int)), some (.str ltr), some (.ref W), some (.int way), some (.str st), some (.ref F), some (.int (0 + (i : Int))), some (.int (a : Int)), some (.str z), none, none] ∧ NSt H H' d g F W ts ∧ Nm z ∧ z ∉ ts, ?_, ?_⟩
      · refine ⟨_, rfl, _, rfl, F, _, rfl, .inl (.of n9.eF), rfl, flat_strs _, _, rfl, ite2 (fun c => ?_) (fun c => ?_)⟩
        · refine ⟨_, rfl, ltr, rfl, fun D hDn => ?_⟩
          refine lc_str (fun i H' => H' D = some (.lst ((((ltr.cps.toList.take i).filter (fun c => decide (one c ∉ ts))).map one).map V.str)) ∧ Same H9 H') ⟨upd_same, same_upd hDn⟩ ?_ ?_
          · rintro i2 c2 H10 hc2 ⟨eD, sm⟩
            have hc3 : ltr.cps.toList[i2]? = some c2 := by simpa using hc2
            have i26 : i2 < 26 := by
              have := (List.getElem?_eq_some_iff.mp hc3).1
              rw [ltr_l] at this
              exact this
            have et : ltr.cps.toList.take (i2 + 1) = ltr.cps.toList.take i2 ++ [c2] := by rw [List.take_add_one, hc3]; rfl
            refine ⟨rfl, _, rfl, _, rfl, F, _, rfl, .inl (.of (sm _ _ n9.eF)), rfl, flat_strs _, _, rfl, ?_⟩
            have ei : inV (V.str ⟨#[c2]⟩) (ts.map V.str) = decide (one c2 ∈ ts) := inV_str (one c2) ts
            refine ite2 (fun c => ?_) (fun c => ?_)
            · have h1 : (!inV (V.str ⟨#[c2]⟩) (ts.map V.str)) = true := c
              rw [ei] at h1
              have h2 : one c2 ∉ ts := by simpa using h1
              refine ⟨_, rfl, _, eD, ?_, ?_, fun b o e => ?_⟩
              · rw [List.length_map, List.length_map]
                refine small1000 (Nat.le_trans (List.length_filter_le _ _) ?_)
                rw [List.length_take]
                omega
              · rw [upd_same, et, List.filter_append, List.map_append, List.map_append]
                have : List.filter (fun c => decide (one c ∉ ts)) [c2] = [c2] := by rw [List.filter_cons_of_pos (by simpa using h2)]; rfl
                rw [this]
                rfl
              · rw [upd_ne (ne_of_none e hDn)]
                exact sm b o e
            · have h1 : ¬ (!inV (V.str ⟨#[c2]⟩) (ts.map V.str)) = true := c
              rw [ei] at h1
              have h2 : one c2 ∈ ts := by simpa using h1
              refine ⟨?_, sm⟩
              rw [eD, et, List.filter_append]
              have : List.filter (fun c => decide (one c ∉ ts)) [c2] = [] := by rw [List.filter_cons_of_neg (by simpa using h2)]; rfl
              rw [this, List.append_nil]
          · rintro H10 ⟨eD, sm⟩
            obtain ⟨c0, r0, e0⟩ := ltr_free (ts := ts) (by omega)
            have e26 : ltr.cps.size = ltr.cps.toList.length := by simp
            rw [e26, List.take_length, e0] at eD
            have hm : c0 ∈ ltr.cps.toList.filter (fun c => decide (one c ∉ ts)) := by rw [e0]; exact List.mem_cons_self
            obtain ⟨hm1, hm2⟩ := List.mem_filter.mp hm
            have hb : 97 ≤ c0 ∧ c0 ≤ 122 := by
              rw [ltr_l] at hm1
              simp only [List.mem_cons, List.not_mem_nil, or_false] at hm1
              omega
            exact ⟨D, _, _, V.str (one c0), rfl, rfl, .of eD, atI_nat (j := 0) rfl, one c0, rfl, n9.draw (n9.dk.same sm) (Same.kd sm), nm_one hb.1 hb.2, by simpa using hm2⟩
        · have h1 : ¬ inV (V.str z) (ts.map V.str) = true := c
          rw [inV_str] at h1
          exact ⟨z, rfl, n9, nz, by simpa using h1⟩
      clear nz n9
      clear z H9
      rintro σ H9 ⟨z, rfl, n9, nz, nin⟩
      refine ⟨_, rfl, .inl ⟨rfl, _, .of n9.eF⟩, _, rfl, F, _, _, rfl, rfl, n9.eF, ?_, ts ++ [z], _, _, _, rfl, ⟨?_, ?_, ?_, ?_, n9.fF, n9.nF, n9.nW⟩, ?_, ?_, ?_⟩
      · rw [List.length_map]; exact small1000 (by omega)
      · obtain ⟨gs, b, m, h1, h2, h3⟩ := n9.dk
        exact ⟨gs, b, m, by rw [upd_ne n9.nF.1.symm]; exact h1, by rw [upd_ne n9.nF.2.symm]; exact h2, h3⟩
      · intro b o e h1 h2
        rw [upd_ne (ne_of_none e n9.fF)]
        exact n9.kd b o e h1 h2
      · rw [upd_same, List.map_append]; rfl
      · rw [upd_ne WF]; exact n9.eW
      · rw [List.length_append, tl]; rfl
      · intro y hy
        rcases List.mem_append.mp hy with h | h
        · exact tn y h
        · rw [List.mem_singleton.mp h]; exact nz
      · exact List.nodup_append.mpr ⟨td, List.nodup_cons.mpr ⟨List.not_mem_nil, List.nodup_nil⟩, fun x hx y hy e => nin (by rw [← List.mem_singleton.mp hy, ← e]; exact hx)⟩
    · rintro σ H6 ⟨ts, x7, x8, x9, rfl, n6, tl, tn, td⟩
      exact ⟨_, rfl, k F ts H6 n6.dk n6.kd n6.fF n6.eF n6.nF.1 n6.nF.2 (by rw [tl]; omega) tn td⟩
/-! ### rules, data, orders -/
/-- tuples stand -/
def Tk (H H' : Hp) : Prop := ∀ b xs, H b = some (.tup xs) → H' b = some (.tup xs)
theorem Same.tk {H H' : Hp} (s : Same H H') : Tk H H' := fun b _ h => s b _ h
theorem Kd.tk {d g : Addr} {H H' : Hp} (k : Kd d g H H') (hD : Deck H d g) : Tk H H' := fun b xs h => by
  obtain ⟨gs, a, m, h1, h2, _⟩ := hD
  exact k b _ h (ne_of h h1 (by intro z; cases z)) (ne_of h h2 (by intro z; cases z))
theorem Tk.trans {H H1 H2 : Hp} (a : Tk H H1) (b : Tk H1 H2) : Tk H H2 := fun x xs h => b x xs (a x xs h)
theorem tk_mut {H : Hp} {p : Addr} {xs : List V} {o : HO} (h : H p = some (.lst xs)) : Tk H (upd H p o) := fun b ys e => by
  rw [upd_ne (ne_of e h (by intro z; cases z))]
  exact e
inductive Rls (ts : List Str) (H : Hp) : List Addr → List (List Str) → Prop
  | nil : Rls ts H [] []
  | cons {a : Addr} {l : List Str} {as : List Addr} {ls : List (List Str)} : H a = some (.tup (l.map V.str)) → RuleOk ts l → Rls ts H as ls → Rls ts H (a :: as) (l :: ls)
theorem Rls.keep {ts : List Str} {H H' : Hp} (k : Tk H H') : ∀ {as : List Addr} {ls : List (List Str)}, Rls ts H as ls → Rls ts H' as ls
  | _, _, .nil => .nil
  | _, _, .cons h n r => .cons (k _ _ h) n (r.keep k)
theorem Rls.snoc {ts : List Str} {H : Hp} {a : Addr} {l : List Str} (h : H a = some (.tup (l.map V.str))) (n : RuleOk ts l) : ∀ {as : List Addr} {ls : List (List Str)}, Rls ts H as ls → Rls ts H (as ++ [a]) (ls ++ [l])
  | _, _, .nil => .cons h n .nil
  | _, _, .cons h1 n1 r => .cons h1 n1 (r.snoc h n)
theorem Rls.len {ts : List Str} {H : Hp} : ∀ {as : List Addr} {ls : List (List Str)}, Rls ts H as ls → as.length = ls.length
  | _, _, .nil => rfl
  | _, _, .cons _ _ r => congrArg Nat.succ r.len
theorem Rls.at {ts : List Str} {H : Hp} {a : Addr} : ∀ {as : List Addr} {ls : List (List Str)} {i : Nat}, Rls ts H as ls → as[i]? = some a → ∃ l, ls[i]? = some l ∧ H a = some (.tup (l.map V.str)) ∧ RuleOk ts l
  | _, _, _, .nil, e => by simp at e
  | _, _, 0, .cons h n r, e => by
    have := Option.some.inj e
    subst this
    exact ⟨_, rfl, h, n⟩
  | _, _, i + 1, .cons h n r, e => r.at (i := i) e
theorem Rls.set {ts : List Str} {H : Hp} {a : Addr} {l : List Str} (h : H a = some (.tup (l.map V.str))) (n : RuleOk ts l) : ∀ {as : List Addr} {ls : List (List Str)} (i : Nat), Rls ts H as ls → Rls ts H (as.set i a) (ls.set i l)
  | _, _, _, .nil => .nil
  | _, _, 0, .cons _ _ r => .cons h n r
  | _, _, i + 1, .cons h1 n1 r => .cons h1 n1 (Rls.set h n i r)
theorem Rls.mem {ts : List Str} {H : Hp} {as : List Addr} {ls : List (List Str)} (h : Rls ts H as ls) {a : Addr} (ha : a ∈ as) : ∃ l, H a = some (.tup (l.map V.str)) ∧ RuleOk ts l := by
  obtain ⟨i, hi, e⟩ := List.mem_iff_getElem.mp ha
  obtain ⟨l, _, h2, h3⟩ := h.at (i := i) (by rw [List.getElem?_eq_getElem hi, e])
  exact ⟨l, h2, h3⟩
/-- what stands from H0 on, all but the deck -/
structure Std (H0 H' : Hp) (d g : Addr) : Prop where
  dk : Deck H' d g
  kd : Kd d g H0 H'
theorem Std.refl {H : Hp} {d g : Addr} (h : Deck H d g) : Std H H d g := ⟨h, Kd.refl H⟩
theorem Std.draw {H0 H1 H2 : Hp} {d g : Addr} (s : Std H0 H1 d g) (h : Deck H2 d g) (k : Kd d g H1 H2) : Std H0 H2 d g := ⟨h, s.kd.trans k⟩
theorem Std.trans {H0 H1 H2 : Hp} {d g : Addr} (s : Std H0 H1 d g) (t : Std H1 H2 d g) : Std H0 H2 d g := ⟨t.dk, s.kd.trans t.kd⟩
theorem Std.new {H0 H1 : Hp} {d g p : Addr} {o : HO} (s : Std H0 H1 d g) (hp : H1 p = none) : Std H0 (upd H1 p o) d g := ⟨s.dk.same (same_upd hp), s.kd.trans (Same.kd (same_upd hp))⟩
theorem Std.free {H0 H1 : Hp} {d g p : Addr} (s : Std H0 H1 d g) (hp : H1 p = none) : H0 p = none := s.kd.free hp (s.dk.new hp).1 (s.dk.new hp).2
theorem Std.mut {H0 H1 : Hp} {d g p : Addr} {o : HO} (s : Std H0 H1 d g) (hp : H0 p = none) (n1 : p ≠ d) (n2 : p ≠ g) : Std H0 (upd H1 p o) d g := by
  refine ⟨?_, fun b u e h1 h2 => ?_⟩
  · obtain ⟨gs, a, m, h1, h2, h3⟩ := s.dk
    exact ⟨gs, a, m, by rw [upd_ne n1.symm]; exact h1, by rw [upd_ne n2.symm]; exact h2, h3⟩
  · rw [upd_ne (ne_of_none e hp)]
    exact s.kd b u e h1 h2
/-- a list apart from the deck -/
structure Lat (H : Hp) (d g p : Addr) (xs : List V) : Prop where
  at_ : H p = some (.lst xs)
  nd : p ≠ d
  ng : p ≠ g
theorem Lat.keep {H H' : Hp} {d g p : Addr} {xs : List V} (h : Lat H d g p xs) (k : Kd d g H H') : Lat H' d g p xs := ⟨k _ _ h.at_ h.nd h.ng, h.nd, h.ng⟩
theorem Lat.new {H : Hp} {d g p : Addr} {xs : List V} (h : Deck H d g) (hp : H p = none) : Lat (upd H p (.lst xs)) d g p xs := ⟨upd_same, (h.new hp).1, (h.new hp).2⟩
def kds : List Str := ["first", "last", "before", "upto", "same", "apart", "far", "next"]
theorem kds_two : ∀ z ∈ kds, z ∈ two ∨ z ∈ six := by decide +kernel
theorem kds_first : ∀ r : Nat, (h : r < kds.length) → r < 2 → kds[r] ∈ two := by decide +kernel
theorem two_in (z : Str) : inV (V.str z) [V.str ("first" : Str), V.str ("last" : Str)] = decide (z ∈ two) := inV_str z two
theorem turn_ne {n e p : Int} (hn : 2 ≤ n) (p0 : 0 ≤ p) (p1 : p < n) (e0 : 0 ≤ e) (e1 : e < n - 1) : 0 ≤ (p + 1 + e) % n ∧ (p + 1 + e) % n < n ∧ (p + 1 + e) % n ≠ p := by
  refine ⟨Int.emod_nonneg _ (by omega), Int.emod_lt_of_pos _ (by omega), ?_⟩
  by_cases h : p + 1 + e < n
  · rw [Int.emod_eq_of_lt (by omega) h]; omega
  · rw [← Int.sub_emod_right, Int.emod_eq_of_lt (by omega) (by omega)]; omega
def sp_rule : Sp := fun vs H Q _ => ∃ (d g t : Addr) (ts : List Str), vs = [.ref d, .ref t] ∧ Deck H d g ∧ Lat H d g t (ts.map V.str) ∧ TasksOk ts ∧
  ∀ (a : Addr) (l : List Str) (H' : Hp), Std H H' d g → H a = none → H' a = some (.tup (l.map V.str)) → RuleOk ts l → Q (.ref a) H'
theorem ok_law_rule (T : Tx K w mg) : FnOk P w K mg base CX0 2 T.f_law_rule T.d_law_rule ["deck", "task_list"] sp_rule := by
  refine T.F_law_rule.ok sc_law_rule (fun vs H Q E h => ?_) (fun cdv A outer s H vs Q E hr h => ?_)
  · obtain ⟨d, g, t, ts, rfl, _⟩ := h
    rfl
  · obtain ⟨d, g, t, ts, rfl, hD, lt, ok, k⟩ := h
    refine ⟨_,
    (pss_cons
      (ps_set (i := 2) sc_law_rule.nd rfl (.inl rfl) (pe_lst (pa_cons pe_str (pa_cons pe_str (pa_cons pe_str (pa_cons pe_str (pa_cons pe_str (pa_cons pe_str (pa_cons pe_str (pa_cons pe_str pa_nil))))))))))
    (pss_cons
      (ps_if (pt_cmpR op_eq (pe_callB call_len_seq (by rfl) T.m_len (by decide +kernel) (pa_cons (pv 1) pa_nil)) pe_int (nomark _))
        (pss_one
          (ps_ret (pe_tup (pa_cons (pe_ix ix_list (pv 2) (pe_call (ok_law_draw T) hr (by rfl) T.g_law_draw T.F_law_draw.kp T.b_law_draw .nil pass0 (pa_cons (pv 0) (pa_cons pe_int pa_nil))) (fun _ _ => rfl)) (pa_cons (pe_ix ix_list (pv 1) pe_int (fun _ _ => rfl)) pa_nil)))))
        pss_nil)
    (pss_cons
      (ps_set (i := 3) sc_law_rule.nd rfl (.inl rfl) (pe_ix ix_list (pv 2) (pe_call (ok_law_draw T) hr (by rfl) T.g_law_draw T.F_law_draw.kp T.b_law_draw .nil pass0 (pa_cons (pv 0) (pa_cons pe_int pa_nil))) (fun _ _ => rfl)))
    (pss_cons
      (ps_set (i := 4) sc_law_rule.nd rfl (.inl rfl) (pe_call (ok_law_draw T) hr (by rfl) T.g_law_draw T.F_law_draw.kp T.b_law_draw .nil pass0 (pa_cons (pv 0) (pa_cons (pe_callB call_len_seq (by rfl) T.m_len (by decide +kernel) (pa_cons (pv 1) pa_nil)) pa_nil))))
    (pss_cons
      (ps_if (pt_cmpR op_in_seq (pv 3) (pe_tup (pa_cons pe_str (pa_cons pe_str pa_nil))) (by rfl))
        (pss_one
          (ps_ret (pe_tup (pa_cons (pv 3) (pa_cons (pe_ix ix_list (pv 1) (pv 4) (fun _ _ => rfl)) pa_nil)))))
        pss_nil)
    (pss_one
      (ps_ret (pe_tup (pa_cons (pv 3) (pa_cons (pe_ix ix_list (pv 1) (pv 4) (fun _ _ => rfl)) (pa_cons (pe_ix ix_list (pv 1) (pe_op op_mod (pe_op op_add (pe_op op_add (pv 4) pe_int) (pe_call (ok_law_draw T) hr (by rfl) T.g_law_draw T.F_law_draw.kp T.b_law_draw .nil pass0 (pa_cons (pv 0) (pa_cons (pe_op op_sub (pe_callB call_len_seq (by rfl) T.m_len (by decide +kernel) (pa_cons (pv 1) pa_nil)) pe_int) pa_nil)))) (pe_callB call_len_seq (by rfl) T.m_len (by decide +kernel) (pa_cons (pv 1) pa_nil))) (fun _ _ => rfl)) pa_nil))))))))))), ?_⟩
    have tne : 0 < ts.length := List.length_pos_iff.mpr ok.ne
    have tfew := ok.few
    refine ⟨(by show 8 ≤ sizeLine; decide), fun Z hZ => ?_⟩
    have s1 : Std H (upd H Z (.lst (kds.map V.str))) d g := (Std.refl hD).new hZ
    have lz : Lat (upd H Z (.lst (kds.map V.str))) d g Z (kds.map V.str) := Lat.new hD hZ
    have lt1 := lt.keep s1.kd
    refine ⟨_, rfl, t, _, rfl, .inl (.of lt1.at_), rfl, _, rfl, ite2 (fun c => ?_) (fun c => ?_)⟩
    · have c1 : ts.length = 1 := by
        have := V.int.inj (of_decide_eq_true c)
        rw [List.length_map] at this
        omega
      refine ⟨_, rfl, _, rfl, d, g, 2, rfl, s1.dk, by decide, by decide +kernel, fun r H2 r0 r1 hD2 k2 => ?_⟩
      obtain ⟨r, rfl⟩ := Int.eq_ofNat_of_zero_le r0
      have s2 := s1.draw hD2 k2
      have hr8 : r < kds.length := by show r < 8; omega
      refine ⟨Z, _, _, V.str kds[r], rfl, rfl, .of (lz.keep k2).at_, atI_nat (by rw [List.getElem?_map, List.getElem?_eq_getElem hr8]; rfl), _, rfl, t, _, _, V.str ts[0], rfl, rfl, .of (lt.keep s2.kd).at_, atI_nat (j := 0) (by rw [List.getElem?_map, List.getElem?_eq_getElem tne]; rfl), (by show 2 ≤ sizeLine; decide), fun a ha => ?_⟩
      exact k a [kds[r], ts[0]] _ (s2.new ha) (s2.free ha) upd_same (.inl ⟨_, _, kds_first r hr8 (by omega), List.getElem_mem tne, rfl⟩)
    · have c1 : ts.length ≠ 1 := fun z => c (decide_eq_true (by rw [List.length_map, z]; rfl))
      refine ⟨_, rfl, _, rfl, d, g, 8, rfl, s1.dk, by decide, by decide +kernel, fun r H2 r0 r1 hD2 k2 => ?_⟩
      obtain ⟨r, rfl⟩ := Int.eq_ofNat_of_zero_le r0
      have s2 := s1.draw hD2 k2
      have hr8 : r < kds.length := by show r < 8; omega
      refine ⟨Z, _, _, V.str kds[r], rfl, rfl, .of (lz.keep k2).at_, atI_nat (by rw [List.getElem?_map, List.getElem?_eq_getElem hr8]; rfl), ?_⟩
      have hk := kds_two _ (List.getElem_mem hr8)
      generalize kds[r] = kd at hk
      -- one
      have lt2 := lt.keep s2.kd
      refine ⟨_, rfl, _, rfl, t, _, rfl, .inl (.of lt2.at_), d, g, _, rfl, s2.dk, ?_, ?_, fun p H3 p0 p1 hD3 k3 => ?_⟩
      · rw [List.length_map]; omega
      · rw [List.length_map]; exact small_log (by omega)
      rw [List.length_map] at p1
      obtain ⟨p, rfl⟩ := Int.eq_ofNat_of_zero_le p0
      have s3 := s2.draw hD3 k3
      have hp : p < ts.length := by omega
      refine ⟨_, rfl, (by show 2 ≤ sizeLine; decide), fun U hU => ⟨U, _, rfl, .inr (.of upd_same), rfl, rfl, _, rfl, ?_⟩⟩
      have s4 : Std H (upd H3 U (.tup [.str ("first" : Str), .str ("last" : Str)])) d g := s3.new hU
      have lt4 := lt.keep s4.kd
      refine ite2 (fun c => ?_) (fun c => ?_)
      · have h1 : inV (V.str kd) [V.str ("first" : Str), V.str ("last" : Str)] = true := c
        rw [two_in] at h1
        refine ⟨_, rfl, _, rfl, _, rfl, t, _, _, V.str ts[p], rfl, rfl, .of lt4.at_, atI_nat (by rw [List.getElem?_map, List.getElem?_eq_getElem hp]; rfl), (by show 2 ≤ sizeLine; decide), fun a ha => ?_⟩
        exact k a [kd, ts[p]] _ (s4.new ha) (s4.free ha) upd_same (.inl ⟨_, _, of_decide_eq_true h1, List.getElem_mem hp, rfl⟩)
      · have h1 : ¬ inV (V.str kd) [V.str ("first" : Str), V.str ("last" : Str)] = true := c
        rw [two_in] at h1
        have h2 : kd ∉ two := fun z => h1 (decide_eq_true z)
        have h3 : kd ∈ six := hk.resolve_left h2
        refine ⟨_, rfl, _, rfl, _, rfl, t, _, _, V.str ts[p], rfl, rfl, .of lt4.at_, atI_nat (by rw [List.getElem?_map, List.getElem?_eq_getElem hp]; rfl), ?_⟩
        refine ⟨_, rfl, _, rfl, _, _, rfl, rfl, _, rfl, _, rfl, t, _, rfl, .inl (.of lt4.at_), _, _, rfl, rfl, d, g, _, rfl, s4.dk, ?_, ?_, fun e H5 e0 e1 hD5 k5 => ?_⟩
        · show (0 : Int) < ((ts.map V.str).length : Int) - 1
          rw [List.length_map]; omega
        · refine small_log ?_
          show (((ts.map V.str).length : Int) - 1).natAbs < 1024
          rw [List.length_map]; omega
        have e2 : e < ((ts.map V.str).length : Int) - 1 := e1
        rw [List.length_map] at e2
        have s5 := s4.draw hD5 k5
        have lt5 := lt.keep s5.kd
        obtain ⟨q0, q1, qn⟩ := turn_ne (n := ts.length) (e := e) (p := p) (by omega) (by omega) (by omega) e0 e2
        obtain ⟨q, hq⟩ := Int.eq_ofNat_of_zero_le q0
        have hql : q < ts.length := by omega
        refine ⟨_, _, rfl, rfl, _, rfl, t, _, rfl, .inl (.of lt5.at_), _, _, rfl, rfl, ?_, t, _, _, V.str ts[q], rfl, rfl, .of lt5.at_, at_of (j := q) ?_ (by rw [List.getElem?_map, List.getElem?_eq_getElem hql]; rfl), (by show 3 ≤ sizeLine; decide), fun a ha => ?_⟩
        · show (0 : Int) < ((ts.map V.str).length : Int)
          rw [List.length_map]; omega
        · show ((p : Int) + 1 + e) % ((ts.map V.str).length : Int) = (q : Int)
          rw [List.length_map]; exact hq
        refine k a [kd, ts[p], ts[q]] _ (s5.new ha) (s5.free ha) upd_same (.inr ⟨_, _, _, h3, List.getElem_mem hp, List.getElem_mem hql, fun z => ?_, rfl⟩)
        have := (List.getElem_inj ok.nd).mp z
        omega
def sp_order : Sp := fun vs H Q _ => ∃ (d g : Addr) (n : Nat), vs = [.ref d, .int n] ∧ Deck H d g ∧ n ≤ 1000 ∧
  ∀ (p : Addr) (os : List Int) (H' : Hp), Std H H' d g → H p = none → H' p = some (.lst (os.map V.int)) → p ≠ d → p ≠ g → (∀ o ∈ os, 0 ≤ o ∧ o < n) → os.length = n → os.Nodup → Q (.ref p) H'
theorem erase_map : ∀ (l : List Int) (j : Nat), (l.map V.int).eraseIdx j = (l.eraseIdx j).map V.int
  | [], _ => rfl
  | _ :: _, 0 => rfl
  | a :: r, j + 1 => by
    show V.int a :: (r.map V.int).eraseIdx j = V.int a :: (r.eraseIdx j).map V.int
    rw [erase_map r j]
def rng (n : Nat) : List Int := (List.range n).map Int.ofNat
theorem rng_v (n : Nat) : rgV 0 (n : Int) = (rng n).map V.int := by
  unfold rgV rng
  rw [List.map_map, show ((n : Int) - 0).toNat = n by omega]
  refine List.map_congr_left fun i _ => ?_
  show V.int (0 + (i : Int)) = V.int (i : Int)
  rw [Int.zero_add]
theorem rng_in {n : Nat} {o : Int} (h : o ∈ rng n) : 0 ≤ o ∧ o < n := by
  obtain ⟨i, hi, rfl⟩ := List.mem_map.mp h
  have := List.mem_range.mp hi
  have e : Int.ofNat i = (i : Int) := rfl
  omega
theorem rng_nd (n : Nat) : (rng n).Nodup := by
  unfold rng List.Nodup
  rw [List.pairwise_map]
  exact (List.nodup_range (n := n)).imp fun h z => h (Int.ofNat.inj z)
theorem rng_len (n : Nat) : (rng n).length = n := by
  unfold rng
  rw [List.length_map, List.length_range]
theorem log20 {m : Int} (h : m.natAbs < 1048576) : m.natAbs.log2 < 9000 := by
  have h1 : m.natAbs.log2 < 20 := PySem.Flt.log2_lt_of (by decide) h
  omega
theorem perm_erase : ∀ (l : List Int) (j : Nat) (h : j < l.length), l.Perm (l[j] :: l.eraseIdx j)
  | a :: r, 0, _ => List.Perm.refl _
  | a :: r, j + 1, h => by
    have ih := perm_erase r j (Nat.lt_of_succ_lt_succ h)
    exact (List.Perm.cons a ih).trans (List.Perm.swap _ _ _)
theorem ok_law_order (T : Tx K w mg) : FnOk P w K mg base CX0 2 T.f_law_order T.d_law_order ["deck", "many"] sp_order := by
  refine T.F_law_order.ok sc_law_order (fun vs H Q E h => ?_) (fun cdv A outer s H vs Q E hr h => ?_)
  · obtain ⟨d, g, n, rfl, _⟩ := h
    rfl
  · obtain ⟨d, g, n, rfl, hD, hn, k⟩ := h
    refine ⟨_,
    (pss_cons
      (ps_set (i := 2) sc_law_order.nd rfl (.inr rfl) (pe_listRg rfl (by rfl) T.m_list (prg_1 (by rfl) T.m_range (pv 1))))
    (pss_one
      (ps_ret (pe_lc (own := [("k", 3)]) (g := gName 3) rfl sc_law_order.nd (pi_range1 (by rfl) T.m_range (pa_cons (pv 1) pa_nil)) (blkOk_by (N := ["deck", "many", "left", "k"]) (sc := defScope s_law_order) (own := [("k", 3)]) (by decide +kernel)) (fun _ _ _ _ _ => (pg_name (i := 3) sc_law_order.nd rfl (.inl rfl))) (fun _ _ _ _ _ => pts_nil) (fun _ _ _ _ _ => (pe_bmK (K := K) rfl PySem.F.plainAttrs_list PySem.F.slot_list_pop PySem.F.type_list_pop mt_popAt (pv 2) (pa_cons (pe_call (ok_law_draw T) hr (by rfl) T.g_law_draw T.F_law_draw.kp T.b_law_draw .nil pass0 (pa_cons (pv 0) (pa_cons (pe_callB (id := "len") (r := rLen K) call_len_seq (by rfl) T.m_len (by decide +kernel) (pa_cons (pv 2) pa_nil)) pa_nil))) pa_nil))))))), ?_⟩
    refine ⟨_, rfl, _, rfl, ?_, fun L hL => ?_⟩
    · exact RgOk.of_le (by omega) (by omega) (by omega) (by omega)
    rw [rng_v]
    have dL := hD.new hL
    have s1 : Std H (upd H L (.lst ((rng n).map V.int))) d g := (Std.refl hD).new hL
    have e1 : (upd H L (.lst ((rng n).map V.int))) L = some (.lst ((rng n).map V.int)) := upd_same
    generalize upd H L (.lst ((rng n).map V.int)) = H1 at s1 e1
    refine ⟨_, rfl, _, rfl, by omega, by omega, fun D hDn => ?_⟩
    have dD := s1.dk.new hDn
    have LD : L ≠ D := ne_of_none e1 hDn
    have fD := s1.free hDn
    refine lc_range (lo := 0) (n := ((n : Int)).toNat) (fun i H' => ∃ os ls : List Int, Std H H' d g ∧ H' L = some (.lst (ls.map V.int)) ∧ H' D = some (.lst (os.map V.int)) ∧ (os ++ ls).Nodup ∧ (∀ o ∈ os ++ ls, 0 ≤ o ∧ o < n) ∧ os.length = i ∧ ls.length + i = n) ?_ ?_ ?_
    · exact ⟨[], rng n, s1.new hDn, by rw [upd_ne LD]; exact e1, upd_same, rng_nd n, fun o ho => rng_in ho, rfl, rng_len n⟩
    · rintro i H2 hi ⟨os, ls, s2, eL, eD, nd, hin, ol, ll⟩
      have hi2 : i < n := by
        have : i < ((n : Int)).toNat := hi
        omega
      refine ⟨rfl, _, rfl, .inl ⟨rfl, _, .of eL⟩, _, rfl, _, rfl, L, _, rfl, .inl (.of eL), d, g, _, rfl, s2.dk, ?_, ?_, fun r H3 r0 r1 hD3 k3 => ?_⟩
      · show (0 : Int) < ((ls.map V.int).length : Int)
        rw [List.length_map]; omega
      · refine log20 ?_
        show (((ls.map V.int).length : Nat) : Int).natAbs < 1048576
        rw [List.length_map]; omega
      have r2 : r < ((ls.map V.int).length : Int) := r1
      rw [List.length_map] at r2
      obtain ⟨j, rfl⟩ := Int.eq_ofNat_of_zero_le r0
      have hj : j < ls.length := by omega
      have s3 := s2.draw hD3 k3
      have eL3 := k3 _ _ eL dL.1 dL.2
      have eD3 := k3 _ _ eD dD.1 dD.2
      have pm : (os ++ ls).Perm ((os ++ [ls[j]]) ++ ls.eraseIdx j) := by
        rw [List.append_assoc]
        exact List.Perm.append_left os (perm_erase ls j hj)
      refine ⟨L, ls.map V.int, j, j, V.int ls[j], rfl, rfl, eL3, by omega, by omega, (ixN_seq (ixN_nat (by rw [List.length_map]; exact hj))).1, by rw [List.getElem?_map, List.getElem?_eq_getElem hj]; rfl, os.map V.int, ?_, ?_, os ++ [ls[j]], ls.eraseIdx j, (s3.mut hL dL.1 dL.2).mut fD dD.1 dD.2, ?_, ?_, pm.nodup_iff.mp nd, fun o ho => hin o (pm.mem_iff.mpr ho), ?_, ?_⟩
      · rw [upd_ne LD.symm]; exact eD3
      · rw [List.length_map, ol]; exact small1000 (by omega)
      · rw [upd_ne LD, upd_same, erase_map]
      · rw [upd_same, List.map_append]; rfl
      · rw [List.length_append, ol]; rfl
      · rw [List.length_eraseIdx_of_lt hj]; omega
    · rintro H2 ⟨os, ls, s2, eL, eD, nd, hin, ol, ll⟩
      exact k D os H2 s2 fD eD dD.1 dD.2 (fun o ho => hin o (List.mem_append_left _ ho)) (by rw [ol]; omega) (List.nodup_append.mp nd).1
/-! ### data as wholes -/
theorem nm_ok {z : Str} (h : Nm z) : PyData.canLay0 (.str z) = true := by
  simp only [PyData.canLay0, PyData.strOk, Array.all_eq_true, decide_eq_true_eq]
  intro i hi
  have hm : z.cps[i] ∈ z.cps.toList := by simp
  have := h.low _ hm
  omega
theorem kd_ok : ∀ z ∈ two ++ six, PyData.canLay0 (.str z) = true := by decide +kernel
theorem rule_ok {ts l : List Str} (ok : TasksOk ts) (h : RuleOk ts l) : ∀ z ∈ l, PyData.canLay0 (.str z) = true := by
  rcases h with ⟨k, x, h1, h2, rfl⟩ | ⟨k, x, y, h1, h2, h3, _, rfl⟩
  · intro z hz
    simp only [List.mem_cons, List.not_mem_nil, or_false] at hz
    rcases hz with rfl | rfl
    · exact kd_ok _ (List.mem_append_left _ h1)
    · exact nm_ok (ok.nm _ h2)
  · intro z hz
    simp only [List.mem_cons, List.not_mem_nil, or_false] at hz
    rcases hz with rfl | rfl | rfl
    · exact kd_ok _ (List.mem_append_right _ h1)
    · exact nm_ok (ok.nm _ h2)
    · exact nm_ok (ok.nm _ h3)
theorem lay_strs : ∀ {ss : List Str}, (∀ z ∈ ss, PyData.canLay0 (.str z) = true) → PyData.canLayAll0 (ss.map PyData.str) = true
  | [], _ => rfl
  | a :: r, h => by
    show (PyData.canLay0 (.str a) && PyData.canLayAll0 (r.map PyData.str)) = true
    rw [h a List.mem_cons_self, lay_strs fun z hz => h z (List.mem_cons_of_mem _ hz)]
    rfl
theorem depth_strs : ∀ (ss : List Str), PyData.depthAll (ss.map PyData.str) ≤ 1
  | [] => by simp [PyData.depthAll]
  | a :: r => by
    have := depth_strs r
    simp only [List.map_cons, PyData.depthAll, PyData.depth]
    omega
theorem dp_strs {H : Hp} : ∀ {ss : List Str}, DpAll K H (ss.map V.str) (ss.map PyData.str)
  | [] => .nil
  | _ :: _ => .cons (.str _) dp_strs
def tdata (ts : List Str) : PyData := .list (ts.map PyData.str)
def rdata (l : List Str) : PyData := .tuple (l.map PyData.str)
def rsdata (ls : List (List Str)) : PyData := .list (ls.map rdata)
theorem tdata_ok {ts : List Str} (ok : TasksOk ts) : SeqAt.shaped (tdata ts) = true := by
  unfold SeqAt.shaped
  rw [Bool.and_eq_true]
  have h := depth_strs ts
  exact ⟨lay_strs fun z hz => nm_ok (ok.nm z hz), decide_eq_true (by simp only [tdata, PyData.depth]; omega)⟩
theorem lay_rules {ts : List Str} (ok : TasksOk ts) : ∀ {ls : List (List Str)}, (∀ l ∈ ls, RuleOk ts l) → PyData.canLayAll0 (ls.map rdata) = true
  | [], _ => rfl
  | l :: r, h => by
    show (PyData.canLayAll0 (l.map PyData.str) && PyData.canLayAll0 (r.map rdata)) = true
    rw [lay_strs (rule_ok ok (h l List.mem_cons_self)), lay_rules ok fun z hz => h z (List.mem_cons_of_mem _ hz)]
    rfl
theorem depth_rules : ∀ (ls : List (List Str)), PyData.depthAll (ls.map rdata) ≤ 2
  | [] => by simp [PyData.depthAll]
  | l :: r => by
    have h1 := depth_rules r
    have h2 := depth_strs l
    show PyData.depthAll (PyData.tuple (l.map PyData.str) :: r.map rdata) ≤ 2
    simp only [PyData.depthAll, PyData.depth]
    omega
theorem rsdata_ok {ts : List Str} (ok : TasksOk ts) {ls : List (List Str)} (h : ∀ l ∈ ls, RuleOk ts l) : SeqAt.shaped (rsdata ls) = true := by
  unfold SeqAt.shaped
  rw [Bool.and_eq_true]
  have h2 := depth_rules ls
  exact ⟨lay_rules ok h, decide_eq_true (by simp only [rsdata, PyData.depth]; omega)⟩
theorem Rls.dp {ts : List Str} {H : Hp} : ∀ {as : List Addr} {ls : List (List Str)}, Rls ts H as ls → DpAll K H (as.map V.ref) (ls.map rdata)
  | _, _, .nil => .nil
  | _, _, .cons h _ r => .cons (.tup (.of h) dp_strs) r.dp
theorem Rls.all {ts : List Str} {H : Hp} : ∀ {as : List Addr} {ls : List (List Str)}, Rls ts H as ls → ∀ l ∈ ls, RuleOk ts l
  | _, _, .nil, l, h => absurd h List.not_mem_nil
  | _, _, .cons _ n r, l, h => by
    rcases List.mem_cons.mp h with e | h
    · rw [e]; exact n
    · exact r.all l h
/-- the rules ls stand in the list r -/
def Rl (ts : List Str) (H : Hp) (d g r : Addr) (ls : List (List Str)) : Prop := ∃ as, Lat H d g r (as.map V.ref) ∧ Rls ts H as ls
theorem Rl.keep {ts : List Str} {H H' : Hp} {d g r : Addr} {ls : List (List Str)} (h : Rl ts H d g r ls) (hD : Deck H d g) (k : Kd d g H H') : Rl ts H' d g r ls := by
  obtain ⟨as, h1, h2⟩ := h
  exact ⟨as, h1.keep k, h2.keep (Kd.tk k hD)⟩
/-- a book stands at b -/
def Bk (C : Addr) (H : Hp) (d g b : Addr) (ts : List Str) (ls : List (List Str)) : Prop := ∃ dx t r, H b = some (.ins C dx (fl t r)) ∧ Lat H d g t (ts.map V.str) ∧ Rl ts H d g r ls
theorem Bk.keep {C : Addr} {ts : List Str} {H H' : Hp} {d g b : Addr} {ls : List (List Str)} (h : Bk C H d g b ts ls) (hD : Deck H d g) (k : Kd d g H H') : Bk C H' d g b ts ls := by
  obtain ⟨dx, t, r, h1, h2, h3⟩ := h
  obtain ⟨gs, a, m, e1, e2, _⟩ := id hD
  exact ⟨dx, t, r, k _ _ h1 (ne_of h1 e1 (by intro z; cases z)) (ne_of h1 e2 (by intro z; cases z)), h2.keep k, h3.keep hD k⟩
theorem small_log2 {m : Int} (h : m.natAbs < 2048) : m.natAbs.log2 < 9000 := by
  have h1 : m.natAbs.log2 < 11 := PySem.Flt.log2_lt_of (by decide) h
  omega
theorem iteEq {x : Bool} {A B : Prop} (h : x = true) (hB : B) : if (!x) = true then A else B := by
  rw [h]
  exact iteF hB
/-! ### which days keep a rule -/
def look : List Str → List Int → Str → Int
  | t :: ts, d :: ds, z => if t = z then d else look ts ds z
  | _, _, _ => 0
def keptB (l : List Str) (n : Int) (f : Str → Int) : Bool :=
  if l.getD 0 "" = "first" then decide (f (l.getD 1 "") = 1) else if l.getD 0 "" = "last" then decide (f (l.getD 1 "") = n) else
  if l.getD 0 "" = "before" then decide (0 < f (l.getD 2 "") - f (l.getD 1 "")) else if l.getD 0 "" = "upto" then decide (0 ≤ f (l.getD 2 "") - f (l.getD 1 "")) else
  if l.getD 0 "" = "same" then decide (f (l.getD 2 "") - f (l.getD 1 "") = 0) else if l.getD 0 "" = "apart" then !decide (f (l.getD 2 "") - f (l.getD 1 "") = 0) else
  if l.getD 0 "" = "far" then decide (2 ≤ f (l.getD 2 "") - f (l.getD 1 "")) else decide (f (l.getD 2 "") - f (l.getD 1 "") = 1)
theorem dI (a b : Int) : decide (V.int a = V.int b) = decide (a = b) := by
  by_cases h : a = b
  · rw [h, decide_eq_true rfl, decide_eq_true rfl]
  · rw [decide_eq_false h, decide_eq_false (fun z => h (V.int.inj z))]
theorem dS {a b : Str} (c : decide (V.str a = V.str b) = true) : a = b := V.str.inj (of_decide_eq_true c)
theorem dSN {a b : Str} (c : ¬ decide (V.str a = V.str b) = true) : ¬ a = b := fun z => c (decide_eq_true (congrArg V.str z))
theorem two_is {k : Str} (h : k ∈ two) : k = "first" ∨ k = "last" := by simpa [two] using h
theorem six_not {k : Str} (h : k ∈ six) : ¬ k = "first" ∧ ¬ k = "last" := by
  have h2 : ∀ k ∈ six, ¬ k = "first" ∧ ¬ k = "last" := by decide +kernel
  exact h2 k h
theorem merge_nodup : ∀ (more acc : List (Key × V)), (more.map (·.1)).Nodup → (∀ kv ∈ more, valV acc kv.1 = none) → mergeK acc more = acc ++ more
  | [], acc, _, _ => (List.append_nil acc).symm
  | kv :: r, acc, nd, h => by
    rw [List.map_cons] at nd
    have nd2 := List.nodup_cons.mp nd
    show mergeK (putK acc kv.1 kv.2) r = acc ++ kv :: r
    rw [putK_new _ (h kv List.mem_cons_self), merge_nodup r _ nd2.2 fun q hq => ?_, List.append_assoc]
    · rfl
    · rw [valV_snoc _ _ _ _ (h kv List.mem_cons_self), if_neg (fun z => nd2.1 (by rw [← z]; exact List.mem_map_of_mem hq))]
      exact h q (List.mem_cons_of_mem _ hq)
theorem valV_zip {z : Str} : ∀ {ts : List Str} {ds : List Int}, ts.length = ds.length → z ∈ ts → valV ((ts.map (Sum.inr : Str → Key)).zip (ds.map V.int)) (Sum.inr z) = some (V.int (look ts ds z))
  | [], _, _, h => absurd h List.not_mem_nil
  | _ :: _, [], h, _ => by cases h
  | t :: ts, d :: ds, hl, h => by
    show valV ((Sum.inr t, V.int d) :: (ts.map Sum.inr).zip (ds.map V.int)) (Sum.inr z) = _
    by_cases e : t = z
    · rw [valV_pos (p := ((Sum.inr t : Key), V.int d)) (congrArg Sum.inr e)]
      unfold look
      rw [if_pos e]
    · rw [valV_neg (p := ((Sum.inr t : Key), V.int d)) (fun x => e (Sum.inr.inj x))]
      unfold look
      rw [if_neg e]
      refine valV_zip (Nat.succ.inj hl) ?_
      rcases List.mem_cons.mp h with x | x
      · exact absurd x.symm e
      · exact x
theorem valV_days {z : Str} {ts : List Str} {ds : List Int} (nd : ts.Nodup) (hl : ts.length = ds.length) (h : z ∈ ts) : valV (mergeK [] ((ts.map (Sum.inr : Str → Key)).zip (ds.map V.int))) (Sum.inr z) = some (V.int (look ts ds z)) := by
  rw [merge_nodup _ [] ?_ (fun _ _ => rfl), List.nil_append]
  · exact valV_zip hl h
  · rw [List.map_fst_zip (by rw [List.length_map, List.length_map]; omega)]
    unfold List.Nodup
    rw [List.pairwise_map]
    exact nd.imp fun h z => h (Sum.inr.inj z)
def sp_kept (K : PySem.W.Frag) : Sp := fun vs H Q _ => ∃ (a D : Addr) (n : Int) (ts l : List Str) (kvs : List (Key × V)) (f : Str → Int), vs = [.ref a, .int n, .ref D] ∧ SqT K H a (l.map V.str) ∧ RuleOk ts l ∧ H D = some (.dK kvs) ∧ (∀ z ∈ ts, valV kvs (Sum.inr z) = some (V.int (f z))) ∧ Q (.bl (keptB l n f)) H
theorem ok_is_kept (T : Tx K w mg) : FnOk P w K mg base CX0 1 T.f_is_kept T.d_is_kept ["rule", "n", "days"] (sp_kept K) := by
  refine T.F_is_kept.ok sc_is_kept (fun vs H Q E h => ?_) (fun cdv A outer s H vs Q E hr h => ?_)
  · obtain ⟨a, D, n, ts, l, kvs, f, rfl, _⟩ := h
    rfl
  · obtain ⟨a, D, n, ts, l, kvs, f, rfl, hA, ok, hD, hv, k⟩ := h
    refine ⟨_,
    (pss_cons
      (ps_set (i := 3) sc_is_kept.nd rfl (.inl rfl) (pe_ix ix_tup (pv 0) pe_int (fun _ _ => rfl)))
    (pss_cons
      (ps_set (i := 4) sc_is_kept.nd rfl (.inl rfl) (pe_dget (hu_of hr) (pv 2) (pe_ix ix_tup (pv 0) pe_int (fun _ _ => rfl)) (fun _ _ => rfl)))
    (pss_cons
      (ps_if (pt_cmpR op_eq (pv 3) pe_str (nomark _))
        (pss_one
          (ps_ret (pe_cmpR op_eq (pv 4) pe_int (nomark _))))
        pss_nil)
    (pss_cons
      (ps_if (pt_cmpR op_eq (pv 3) pe_str (nomark _))
        (pss_one
          (ps_ret (pe_cmpR op_eq (pv 4) (pv 1) (nomark _))))
        pss_nil)
    (pss_cons
      (ps_set (i := 5) sc_is_kept.nd rfl (.inl rfl) (pe_op op_sub (pe_dget (hu_of hr) (pv 2) (pe_ix ix_tup (pv 0) pe_int (fun _ _ => rfl)) (fun _ _ => rfl)) (pv 4)))
    (pss_cons
      (ps_if (pt_cmpR op_eq (pv 3) pe_str (nomark _))
        (pss_one
          (ps_ret (pe_cmpR op_gt (pv 5) pe_int (nomark _))))
        pss_nil)
    (pss_cons
      (ps_if (pt_cmpR op_eq (pv 3) pe_str (nomark _))
        (pss_one
          (ps_ret (pe_cmpR op_ge (pv 5) pe_int (nomark _))))
        pss_nil)
    (pss_cons
      (ps_if (pt_cmpR op_eq (pv 3) pe_str (nomark _))
        (pss_one
          (ps_ret (pe_cmpR op_eq (pv 5) pe_int (nomark _))))
        pss_nil)
    (pss_cons
      (ps_if (pt_cmpR op_eq (pv 3) pe_str (nomark _))
        (pss_one
          (ps_ret (pe_cmpR op_ne (pv 5) pe_int (nomark _))))
        pss_nil)
    (pss_cons
      (ps_if (pt_cmpR op_eq (pv 3) pe_str (nomark _))
        (pss_one
          (ps_ret (pe_cmpR op_ge (pv 5) pe_int (nomark _))))
        pss_nil)
    (pss_one
      (ps_ret (pe_cmpR op_eq (pv 5) pe_int (nomark _)))))))))))))), ?_⟩
    have get : ∀ z : Str, z ∈ ts → DGet H D (V.str z) (some (V.int (f z))) := fun z h => by
      have := DGet.k (k := (Sum.inr z : Key)) hD
      rw [hv z h] at this
      exact this
    have as : ∀ {b b' : Bool}, b = b' → Q (.bl b) H → Q (.bl b') H := fun e h => e ▸ h
    rcases ok with ⟨kd, x, hk, hx, rfl⟩ | ⟨kd, x, y, hk, hx, hy, _, rfl⟩
    · refine ⟨_, rfl, a, _, _, _, rfl, rfl, hA, atI_nat (j := 0) rfl, _, rfl, _, rfl, a, _, _, _, rfl, rfl, hA, atI_nat (j := 1) rfl, D, _, rfl, get _ hx, ?_⟩
      refine ⟨_, rfl, rfl, _, rfl, ite2 (fun c => ?_) (fun c => ?_)⟩
      · refine ⟨_, rfl, rfl, as ?_ k⟩
        rw [dI]
        exact if_pos (dS c)
      · have c1 := dSN c
        have c2 : kd = "last" := (two_is hk).resolve_left c1
        refine ⟨_, rfl, rfl, _, rfl, iteD (congrArg V.str c2) ⟨_, rfl, _, rfl, rfl, as ?_ k⟩⟩
        rw [dI]
        exact (if_neg c1).trans (if_pos c2)
    · obtain ⟨n1, n2⟩ := six_not hk
      refine ⟨_, rfl, a, _, _, _, rfl, rfl, hA, atI_nat (j := 0) rfl, _, rfl, _, rfl, a, _, _, _, rfl, rfl, hA, atI_nat (j := 1) rfl, D, _, rfl, get _ hx, ?_⟩
      refine ⟨_, rfl, rfl, _, rfl, iteND (fun z => n1 (V.str.inj z)) ⟨_, rfl, rfl, _, rfl, iteND (fun z => n2 (V.str.inj z)) ?_⟩⟩
      refine ⟨_, rfl, _, rfl, a, _, _, _, rfl, rfl, hA, atI_nat (j := 2) rfl, D, _, rfl, get _ hy, _, rfl, _, _, rfl, rfl, ?_⟩
      have k' : Q (.bl (if kd = "before" then decide (0 < f y - f x) else if kd = "upto" then decide (0 ≤ f y - f x) else if kd = "same" then decide (f y - f x = 0) else if kd = "apart" then !decide (f y - f x = 0) else if kd = "far" then decide (2 ≤ f y - f x) else decide (f y - f x = 1))) H :=
        as ((if_neg n1).trans (if_neg n2)) k
      refine ⟨_, rfl, rfl, _, rfl, ite2 (fun c => ⟨_, rfl, _, _, rfl, rfl, as (if_pos (dS c)) k'⟩) (fun c => ?_)⟩
      have k' := as (if_neg (dSN c)) k'
      refine ⟨_, rfl, rfl, _, rfl, ite2 (fun c => ⟨_, rfl, _, _, rfl, rfl, as (if_pos (dS c)) k'⟩) (fun c => ?_)⟩
      have k' := as (if_neg (dSN c)) k'
      refine ⟨_, rfl, rfl, _, rfl, ite2 (fun c => ⟨_, rfl, rfl, as ((if_pos (dS c)).trans (dI _ _).symm) k'⟩) (fun c => ?_)⟩
      have k' := as (if_neg (dSN c)) k'
      refine ⟨_, rfl, rfl, _, rfl, ite2 (fun c => ⟨_, rfl, rfl, as ((if_pos (dS c)).trans (congrArg Bool.not (dI _ _).symm)) k'⟩) (fun c => ?_)⟩
      have k' := as (if_neg (dSN c)) k'
      refine ⟨_, rfl, rfl, _, rfl, ite2 (fun c => ⟨_, rfl, _, _, rfl, rfl, as (if_pos (dS c)) k'⟩) (fun c => ?_)⟩
      have k' := as (if_neg (dSN c)) k'
      exact ⟨_, rfl, rfl, as (dI _ _).symm k'⟩
/-- the days are a plan of the tasks and rules -/
def planB (ts : List Str) (ls : List (List Str)) (n : Int) (ds : List Int) : Bool :=
  decide (ds.length = ts.length) && ds.all (fun d => decide (1 ≤ d) && decide (d ≤ n)) && ls.all fun l => keptB l n (look ts ds)
/-- a book at b: its data anywhere -/
def BkR (K : PySem.W.Frag) (C : Addr) (H : Hp) (b : Addr) (ts : List Str) (ls : List (List Str)) : Prop := ∃ (dx t r : Addr) (as : List Addr), H b = some (.ins C dx (fl t r)) ∧ H t = some (.lst (ts.map V.str)) ∧ H r = some (.lst (as.map V.ref)) ∧ Rls ts H as ls
def sp_keeps (K : PySem.W.Frag) (C : Addr) : Sp := fun vs H Q _ => ∃ (b p : Addr) (n : Int) (ts : List Str) (ls : List (List Str)) (ds : List Int), vs = [.ref b, .int n, .ref p] ∧ BkR K C H b ts ls ∧ SqL K H p (ds.map V.int) ∧ ts.Nodup ∧ ts.length ≤ 1000 ∧ ls.length ≤ 1000 ∧ ds.length ≤ 5000 ∧ ∀ H', Same H H' → Q (.bl (planB ts ls n ds)) H'
theorem all_map {α : Type} (p : α → Bool) (xs : List α) : (xs.map p).all id = xs.all p := by
  induction xs with
  | nil => rfl
  | cons a r ih => rw [List.map_cons, List.all_cons, List.all_cons, ih]; rfl
theorem ok_Book_keeps (T : Tx K w mg) : FnOk P w K mg base CX0 2 T.f_Book_keeps T.d_Book_keeps ["self", "n", "plan"] (sp_keeps K T.C_Book) := by
  refine T.F_Book_keeps.ok sc_Book_keeps (fun vs H Q E h => ?_) (fun cdv A outer s H vs Q E hr h => ?_)
  · obtain ⟨b, p, n, ts, ls, ds, rfl, _⟩ := h
    rfl
  · obtain ⟨b, p, n, ts, ls, ds, rfl, ⟨dx, t, r, as, hb, ht, hr', rls⟩, hp, nd, f1, f2, f3, k⟩ := h
    refine ⟨_,
    (pss_cons
      (ps_if (PW.pt (pw_or (pt_cmpR op_ne (pe_callB call_len_seq (by rfl) T.m_len (by decide +kernel) (pa_cons (pv 2) pa_nil)) (pe_callB call_len_seq (by rfl) T.m_len (by decide +kernel) (pa_cons (pe_fld (pv 0) rfl) pa_nil)) (nomark _)) (pw_or1 (pt_not (pt_val (pe_callB (cr_all rfl) (by rfl) T.m_all (by decide +kernel) (pa_cons (pe_lc (own := [("day", 4)]) (g := gName 4) rfl sc_Book_keeps.nd (pi_list (pv 2)) (blkOk_by (N := ["self", "n", "plan", "days", "day", "rule"]) (sc := defScope s_Book_keeps) (own := [("day", 4)]) (by decide +kernel)) (fun _ _ _ _ _ => (pg_name (i := 4) sc_Book_keeps.nd rfl (.inl rfl))) (fun _ _ _ _ _ => pts_nil) (fun _ _ _ _ _ => (pe_chain op_le op_le pe_int (pv 4) (pv 1)))) pa_nil)))))))
        (pss_one
          (ps_ret pe_bl))
        pss_nil)
    (pss_cons
      (ps_set (i := 3) sc_Book_keeps.nd rfl (.inr rfl) (pe_dictZip rfl (by rfl) T.m_dict (by rfl) T.m_zip (pa_cons (pe_fld (pv 0) rfl) (pa_cons (pv 2) pa_nil))))
    (pss_one
      (ps_ret (pe_callB (cr_all rfl) (by rfl) T.m_all (by decide +kernel) (pa_cons (pe_lc (own := [("rule", 5)]) (g := gName 5) rfl sc_Book_keeps.nd (pi_list (pe_fld (pv 0) rfl)) (blkOk_by (N := ["self", "n", "plan", "days", "day", "rule"]) (sc := defScope s_Book_keeps) (own := [("rule", 5)]) (by decide +kernel)) (fun _ _ _ _ _ => (pg_name (i := 5) sc_Book_keeps.nd rfl (.inl rfl))) (fun _ _ _ _ _ => pts_nil) (fun _ _ _ _ _ => (pe_call (ok_is_kept T) hr (by rfl) T.g_is_kept T.F_is_kept.kp T.b_is_kept .nil pass0 (pa_cons (pv 5) (pa_cons (pv 1) (pa_cons (pv 3) pa_nil)))))) pa_nil)))))), ?_⟩
    have hu := hu_of hr
    refine ⟨_, rfl, p, _, rfl, .inl hp, _, rfl, b, T.C_Book, dx, _, _, rfl, hb, T.cl_Book, T.n_Book_tasks, fl_t t r, t, _, rfl, .inl (.of ht), rfl, _, rfl, ite2 (fun c => ?_) (fun c => ?_)⟩
    · have hne : ds.length ≠ ts.length := fun z => by
        rw [List.length_map, List.length_map, z, decide_eq_true rfl] at c
        exact Bool.false_ne_true c
      have k1 := k H (Same.refl H)
      have e : planB ts ls n ds = false := by
        unfold planB
        rw [decide_eq_false hne]
        rfl
      rw [e] at k1
      exact k1
    have hlen : ds.length = ts.length := by
      have h2 : decide (V.int (((ds.map V.int).length : Nat) : Int) = V.int (((ts.map V.str).length : Nat) : Int)) = true := by simpa using c
      have := V.int.inj (of_decide_eq_true h2)
      rw [List.length_map, List.length_map] at this
      omega
    refine ⟨_, rfl, p, rfl, ⟨_, hp⟩, fun D hD => ?_⟩
    refine lc_list (xs := ds.map V.int) (fun i H' => i ≤ ds.length ∧ H' D = some (.lst (((ds.take i).map fun d => decide (1 ≤ d) && decide (d ≤ n)).map V.bl)) ∧ Same H H') ⟨Nat.zero_le _, upd_same, same_upd hD⟩ (fun i H' _ h => h.2.2.seq hp) ?_ ?_
    · rintro i v H1 hi ⟨il, eD, sm⟩
      have hil := (List.getElem?_eq_some_iff.mp hi).1
      rw [List.length_map] at hil
      rw [List.getElem?_map] at hi
      obtain ⟨d, hd, rfl⟩ := Option.map_eq_some_iff.mp hi
      have room : ((((ds.take i).map fun d => decide (1 ≤ d) && decide (d ≤ n)).map V.bl)).length < sizeLine := by
        rw [List.length_map, List.length_map, List.length_take]
        exact Nat.lt_of_le_of_lt (show _ ≤ 5000 by omega) (by decide)
      have fin : ∀ b0 : Bool, b0 = (decide (1 ≤ d) && decide (d ≤ n)) → (i + 1 ≤ ds.length ∧ (upd H1 D (.lst ((((ds.take i).map fun d => decide (1 ≤ d) && decide (d ≤ n)).map V.bl) ++ [V.bl b0]))) D = some (.lst (((ds.take (i + 1)).map fun d => decide (1 ≤ d) && decide (d ≤ n)).map V.bl)) ∧ Same H (upd H1 D (.lst ((((ds.take i).map fun d => decide (1 ≤ d) && decide (d ≤ n)).map V.bl) ++ [V.bl b0])))) := fun b0 hb0 => by
        refine ⟨hil, ?_, fun b o e => ?_⟩
        · rw [upd_same, List.take_add_one, hd, List.map_append, List.map_append, hb0]
          rfl
        · rw [upd_ne (ne_of_none e hD)]
          exact sm b o e
      refine ⟨rfl, _, rfl, _, _, rfl, rfl, _, rfl, ite2 (fun c1 => ?_) (fun c1 => ?_)⟩
      · exact ⟨_, rfl, _, _, rfl, rfl, _, eD, room, fin _ (by rw [c1]; rfl)⟩
      · exact ⟨_, eD, room, fin false (by rw [Bool.eq_false_iff.mpr c1]; rfl)⟩
    · rintro H1 ⟨_, eD, sm⟩
      rw [List.length_map, List.take_length] at eD
      refine ⟨D, _, rfl, .of eD, _, rfl, ?_⟩
      rw [all_map]
      by_cases hall : ¬ (ds.all fun d => decide (1 ≤ d) && decide (d ≤ n)) = true
      · have hf := Bool.eq_false_iff.mpr hall
        rw [hf]
        refine iteT ?_
        have k1 := k H1 sm
        have e : planB ts ls n ds = false := by
          unfold planB
          rw [hf, Bool.and_false, Bool.false_and]
        rw [e] at k1
        exact k1
      · have hall := Classical.not_not.mp hall
        rw [hall]
        refine iteF ?_
        have hb1 := sm _ _ hb
        have ht1 := sm _ _ ht
        refine ⟨_, rfl, b, T.C_Book, dx, _, _, rfl, hb1, T.cl_Book, T.n_Book_tasks, fl_t t r, _, rfl, t, p, ts.map Sum.inr, ds.map V.int, rfl, ?_, sm.seq hp, ?_, fun M hM => ?_⟩
        · rw [List.map_map]
          exact .of ht1
        · rw [List.length_map, List.length_map, hlen]
        have sM := sm.trans (same_upd (o := .dK (mergeK [] ((ts.map (Sum.inr : Str → Key)).zip (ds.map V.int)))) hM)
        have eM : (upd H1 M (.dK (mergeK [] ((ts.map (Sum.inr : Str → Key)).zip (ds.map V.int))))) M = some (.dK (mergeK [] ((ts.map (Sum.inr : Str → Key)).zip (ds.map V.int)))) := upd_same
        generalize upd H1 M (.dK (mergeK [] ((ts.map (Sum.inr : Str → Key)).zip (ds.map V.int)))) = H2 at sM eM ⊢
        refine ⟨_, rfl, b, T.C_Book, dx, _, _, rfl, sM _ _ hb, T.cl_Book, T.n_Book_rules, fl_r t r, r, rfl, ⟨_, .of (sM _ _ hr')⟩, fun D2 hD2 => ?_⟩
        have alen := rls.len
        refine lc_list (xs := as.map V.ref) (fun i H' => H' D2 = some (.lst (((ls.take i).map fun l => keptB l n (look ts ds)).map V.bl)) ∧ Same H2 H') ⟨upd_same, same_upd hD2⟩ (fun i H' _ h => .of (h.2 _ _ (sM _ _ hr'))) ?_ ?_
        · rintro i v H3 hi ⟨eD2, s3⟩
          have hil := (List.getElem?_eq_some_iff.mp hi).1
          rw [List.length_map] at hil
          rw [List.getElem?_map] at hi
          obtain ⟨a, ha, rfl⟩ := Option.map_eq_some_iff.mp hi
          obtain ⟨l, hl, ea, rok⟩ := rls.at ha
          refine ⟨rfl, _, rfl, _, rfl, _, rfl, a, M, n, ts, l, _, look ts ds, rfl, .of (s3 _ _ (sM _ _ ea)), rok, s3 _ _ eM, fun z hz => valV_days nd hlen.symm hz, _, eD2, ?_, ?_, fun b o e => ?_⟩
          · rw [List.length_map, List.length_map, List.length_take]
            exact small1000 (by omega)
          · rw [upd_same, List.take_add_one, hl, List.map_append, List.map_append]
            rfl
          · rw [upd_ne (ne_of_none e hD2)]
            exact s3 b o e
        · rintro H3 ⟨eD2, s3⟩
          rw [List.length_map, alen, List.take_length] at eD2
          refine ⟨D2, _, rfl, .of eD2, ?_⟩
          rw [all_map]
          have k1 := k H3 (sM.trans s3)
          have e : planB ts ls n ds = ls.all fun l => keptB l n (look ts ds) := by
            unfold planB
            rw [hall, decide_eq_true hlen, Bool.true_and, Bool.true_and]
          rw [e] at k1
          exact k1
/-! ### numbers of days, days -/
def sp_great : Sp := fun vs H Q _ => ∃ (d g : Addr) (n : Int), vs = [.ref d, .int n] ∧ Deck H d g ∧ 0 < n ∧ ∀ r H', 0 ≤ r → r < n → Deck H' d g → Kd d g H H' → Q (.int r) H'
theorem ok_law_great (T : Tx K w mg) : FnOk P w K mg base CX0 2 T.f_law_great T.d_law_great ["deck", "many"] sp_great := by
  refine T.F_law_great.ok sc_law_great (fun vs H Q E h => ?_) (fun cdv A outer s H vs Q E hr h => ?_)
  · obtain ⟨d, g, n, rfl, _⟩ := h
    rfl
  · obtain ⟨d, g, n, rfl, hD, hn, k⟩ := h
    refine ⟨_,
    (pss_cons
      (ps_set (i := 2) sc_law_great.nd rfl (.inl rfl) pe_int)
    (pss_cons
      (ps_for PassesOwn.never rfl (pi_range1 (by rfl) T.m_range (pa_cons pe_int pa_nil)) (pg_name (i := 3) sc_law_great.nd rfl (.inl rfl))
        (pss_one
          (ps_set (i := 2) sc_law_great.nd rfl (.inl rfl) (pe_op op_add (pe_op op_mul (pv 2) pe_int) (pe_call (ok_law_draw T) hr (by rfl) T.g_law_draw T.F_law_draw.kp T.b_law_draw .nil pass0 (pa_cons (pv 0) (pa_cons pe_int pa_nil)))))))
    (pss_one
      (ps_ret (pe_op op_mod (pv 2) (pv 1)))))), ?_⟩
    refine ⟨7, rfl, by decide, by decide, for_range (n := 7) (fun i σ H' => ∃ (x : Int) (y : Option V), σ = [some (.ref d), some (.int n), some (.int x), y] ∧ Deck H' d g ∧ Kd d g H H') ⟨0, none, rfl, hD, Kd.refl H⟩ ?_ ?_⟩
    · rintro i σ H1 _ ⟨x, y, rfl, hD1, k1⟩
      exact ⟨_, rfl, _, _, rfl, rfl, .inr ⟨by decide, by decide⟩, _, rfl, d, g, 2147483647, rfl, hD1, by decide, by decide +kernel, fun r H2 r0 r1 hD2 k2 => ⟨_, _, rfl, rfl, _, _, rfl, hD2, k1.trans k2⟩⟩
    · rintro σ H1 ⟨x, y, rfl, hD1, k1⟩
      exact ⟨_, rfl, _, rfl, _, _, rfl, rfl, hn, k _ _ (Int.emod_nonneg _ (by omega)) (Int.emod_lt_of_pos _ hn) hD1 k1⟩
def sp_number : Sp := fun vs H Q _ => ∃ (d g : Addr), vs = [.ref d] ∧ Deck H d g ∧ ∀ r H', 1 ≤ r → r < 2 ^ 100 → Std H H' d g → Q (.int r) H'
theorem ok_law_number (T : Tx K w mg) : FnOk P w K mg base CX0 3 T.f_law_number T.d_law_number ["deck"] sp_number := by
  refine T.F_law_number.ok sc_law_number (fun vs H Q E h => ?_) (fun cdv A outer s H vs Q E hr h => ?_)
  · obtain ⟨d, g, rfl, _⟩ := h
    rfl
  · obtain ⟨d, g, rfl, hD, k⟩ := h
    refine ⟨_,
    (pss_cons
      (ps_set (i := 1) sc_law_number.nd rfl (.inl rfl) (pe_call (ok_law_draw T) (hr.mono (by decide)) (by rfl) T.g_law_draw T.F_law_draw.kp T.b_law_draw .nil pass0 (pa_cons (pv 0) (pa_cons pe_int pa_nil))))
    (pss_cons
      (ps_if (pt_cmpR op_eq (pv 1) pe_int (nomark _))
        (pss_one
          (ps_ret (pe_op op_add pe_int (pe_call (ok_law_great T) hr (by rfl) T.g_law_great T.F_law_great.kp T.b_law_great .nil pass0 (pa_cons (pv 0) (pa_cons (pe_op op_sub (pe_op op_pow pe_int pe_int) pe_int) pa_nil))))))
        pss_nil)
    (pss_one
      (ps_ret (pe_op op_add pe_int (pe_call (ok_law_draw T) (hr.mono (by decide)) (by rfl) T.g_law_draw T.F_law_draw.kp T.b_law_draw .nil pass0 (pa_cons (pv 0) (pa_cons (pe_ix ix_list (pe_lst (pa_cons pe_int (pa_cons pe_int (pa_cons pe_int (pa_cons pe_int pa_nil))))) (pv 1) (fun _ _ => rfl)) pa_nil)))))))), ?_⟩
    refine ⟨_, rfl, d, g, 4, rfl, hD, by decide, by decide +kernel, fun way H1 w0 w1 hD1 k1 => ?_⟩
    have s1 := (Std.refl hD).draw hD1 k1
    refine ⟨_, rfl, rfl, _, rfl, ite2 (fun c => ?_) (fun c => ?_)⟩
    · refine ⟨_, rfl, _, _, rfl, rfl, ⟨by decide, by decide, by decide⟩, _, _, rfl, rfl, d, g, _, rfl, hD1, ?_, fun r H2 r0 r1 hD2 k2 => ⟨_, _, rfl, rfl, k _ _ ?_ ?_ (s1.draw hD2 k2)⟩⟩
      · show (0 : Int) < (10 : Int) ^ (30 : Int).toNat - 1
        decide
      · show 1 ≤ 1 + r
        omega
      · have h : r < (10 : Int) ^ (30 : Int).toNat - 1 := r1
        rw [show (10 : Int) ^ (30 : Int).toNat = 1000000000000000000000000000000 by decide] at h
        show 1 + r < _
        omega
    · refine ⟨_, rfl, (by show 4 ≤ sizeLine; decide), fun L hL => ?_⟩
      have s2 := s1.new (o := .lst [.int 1, .int 2, .int 5, .int 9]) hL
      have c0 : way ≠ 0 := fun z => c (decide_eq_true (congrArg V.int z))
      refine ⟨_, rfl, L, _, _, V.int (if way = 1 then 2 else if way = 2 then 5 else 9), rfl, rfl, .of upd_same, ?_, d, g, _, rfl, s2.dk, ?_, ?_, fun r H2 r0 r1 hD2 k2 => ⟨_, _, rfl, rfl, k _ _ ?_ ?_ (s2.draw hD2 k2)⟩⟩
      · have : way = 1 ∨ way = 2 ∨ way = 3 := by omega
        rcases this with rfl | rfl | rfl <;> rfl
      · split
        · decide
        · split <;> decide
      · split
        · decide +kernel
        · split <;> decide +kernel
      · show 1 ≤ 1 + r
        omega
      · have h : r < 9 := by
          refine Int.lt_of_lt_of_le r1 ?_
          split
          · decide
          · split <;> decide
        show 1 + r < _
        omega
def sp_days : Sp := fun vs H Q _ => ∃ (d g : Addr) (n : Int) (m : Nat), vs = [.ref d, .int n, .int m] ∧ Deck H d g ∧ 1 ≤ n ∧ m ≤ 100 ∧
  ∀ (p : Addr) (ds : List Int) (H' : Hp), Std H H' d g → H p = none → Lat H' d g p (ds.map V.int) → ds.length = m → (∀ x ∈ ds, 1 ≤ x ∧ x ≤ n) → Q (.ref p) H'
theorem ok_law_days (T : Tx K w mg) : FnOk P w K mg base CX0 3 T.f_law_days T.d_law_days ["deck", "last_day", "many"] sp_days := by
  refine T.F_law_days.ok sc_law_days (fun vs H Q E h => ?_) (fun cdv A outer s H vs Q E hr h => ?_)
  · obtain ⟨d, g, n, m, rfl, _⟩ := h
    rfl
  · obtain ⟨d, g, n, m, rfl, hD, hn, hm, k⟩ := h
    refine ⟨_,
    (pss_cons
      (ps_set (i := 3) sc_law_days.nd rfl (.inl rfl) (pe_call (ok_law_draw T) (hr.mono (by decide)) (by rfl) T.g_law_draw T.F_law_draw.kp T.b_law_draw .nil pass0 (pa_cons (pv 0) (pa_cons pe_int pa_nil))))
    (pss_cons
      (ps_set (i := 4) sc_law_days.nd rfl (.inr rfl) (pe_callB (call_min2 rfl) (by rfl) T.m_min (by decide +kernel) (pa_cons (pv 1) (pa_cons (pe_op op_add pe_int (pe_call (ok_law_draw T) (hr.mono (by decide)) (by rfl) T.g_law_draw T.F_law_draw.kp T.b_law_draw .nil pass0 (pa_cons (pv 0) (pa_cons pe_int pa_nil)))) pa_nil))))
    (pss_cons
      (ps_set (i := 5) sc_law_days.nd rfl (.inr rfl) (pe_ix ix_list (pe_lst (pa_cons pe_int (pa_cons (pe_op op_sub (pv 1) (pv 4)) (pa_cons (pe_call (ok_law_great T) hr (by rfl) T.g_law_great T.F_law_great.kp T.b_law_great .nil pass0 (pa_cons (pv 0) (pa_cons (pe_op op_add (pe_op op_sub (pv 1) (pv 4)) pe_int) pa_nil))) (pa_cons pe_int pa_nil))))) (pv 3) (fun _ _ => rfl)))
    (pss_cons
      (ps_setLc (i := 6) (own := [("k", 7)]) (g := gName 7) rfl sc_law_days.nd rfl rfl (sw_true rfl rfl rfl (by decide +kernel)) (pi_range1 (by rfl) T.m_range (pa_cons (pv 2) pa_nil)) (blkOk_by (N := ["deck", "last_day", "many", "way", "wide", "low", "days", "k"]) (sc := defScope s_law_days) (own := [("k", 7)]) (by decide +kernel)) (fun _ _ _ _ _ => (pg_name (i := 7) sc_law_days.nd rfl (.inl rfl))) (fun _ _ _ _ _ => pts_nil) (fun _ _ _ _ _ => (pe_op op_add (pe_op op_add (pv 5) pe_int) (pe_call (ok_law_draw T) (hr.mono (by decide)) (by rfl) T.g_law_draw T.F_law_draw.kp T.b_law_draw .nil pass0 (pa_cons (pv 0) (pa_cons (pv 4) pa_nil))))))
    (C8.pss_cut
      (ps_if (pt_cmpR op_eq (pv 3) pe_int (nomark _))
        (pss_one
          (ps_setLc (i := 6) (own := [("k", 7)]) (g := gName 7) rfl sc_law_days.nd rfl rfl (sw_true rfl rfl rfl (by decide +kernel)) (pi_range1 (by rfl) T.m_range (pa_cons (pv 2) pa_nil)) (blkOk_by (N := ["deck", "last_day", "many", "way", "wide", "low", "days", "k"]) (sc := defScope s_law_days) (own := [("k", 7)]) (by decide +kernel)) (fun _ _ _ _ _ => (pg_name (i := 7) sc_law_days.nd rfl (.inl rfl))) (fun _ _ _ _ _ => pts_nil) (fun _ _ _ _ _ => (pe_op op_add pe_int (pe_call (ok_law_great T) hr (by rfl) T.g_law_great T.F_law_great.kp T.b_law_great .nil pass0 (pa_cons (pv 0) (pa_cons (pv 1) pa_nil)))))))
        pss_nil)
    (pss_one
      (ps_ret (pv 6)))))))), ?_⟩
    refine ⟨_, rfl, d, g, 4, rfl, hD, by decide, by decide +kernel, fun way H1 w0 w1 hD1 k1 => ?_⟩
    have s1 := (Std.refl hD).draw hD1 k1
    refine ⟨_, rfl, _, rfl, d, g, 6, rfl, hD1, by decide, by decide +kernel, fun e H2 e0 e1 hD2 k2 => ⟨_, _, rfl, rfl, _, _, rfl, ?_⟩⟩
    have s2 := s1.draw hD2 k2
    have hw : 1 ≤ (if 1 + e < n then 1 + e else n) ∧ (if 1 + e < n then 1 + e else n) ≤ n ∧ (if 1 + e < n then 1 + e else n) ≤ 6 := by split <;> omega
    show tSeq _ _ _ [some (V.ref d), some (V.int n), some (V.int (m : Int)), some (V.int way), some (V.int (if 1 + e < n then 1 + e else n)), none, none, none] H2
    generalize (if 1 + e < n then 1 + e else n) = wd at hw
    -- low
    refine ⟨_, rfl, _, rfl, _, _, rfl, rfl, _, rfl, _, rfl, _, rfl, _, _, rfl, rfl, _, _, rfl, rfl, d, g, _, rfl, hD2, ?_, fun r H3 r0 r1 hD3 k3 => ⟨(by show 4 ≤ sizeLine; decide), fun L hL => ?_⟩⟩
    · show (0 : Int) < n - wd + 1
      omega
    have r2 : r < n - wd + 1 := r1
    have s3 := (s2.draw hD3 k3).new (o := .lst [.int 0, .int (n - wd), .int r, .int 0]) hL
    refine ⟨_, rfl, L, _, _, V.int (if way = 1 then n - wd else if way = 2 then r else 0), rfl, rfl, .of upd_same, ?_, ?_⟩
    · have : way = 0 ∨ way = 1 ∨ way = 2 ∨ way = 3 := by omega
      rcases this with rfl | rfl | rfl | rfl <;> rfl
    have hlow : 0 ≤ (if way = 1 then n - wd else if way = 2 then r else 0) ∧ (if way = 1 then n - wd else if way = 2 then r else 0) ≤ n - wd := by
      by_cases h1 : way = 1
      · simp only [if_pos h1]; omega
      · simp only [if_neg h1]
        by_cases h2 : way = 2
        · simp only [if_pos h2]; omega
        · simp only [if_neg h2]; omega
    generalize (if way = 1 then n - wd else if way = 2 then r else 0) = low at hlow
    have s3 : Std H (upd H3 L (.lst [.int 0, .int (n - wd), .int r, .int 0])) d g := s3
    show tSeq _ _ _ [some (V.ref d), some (V.int n), some (V.int (m : Int)), some (V.int way), some (V.int wd), some (V.int low), none, none] (upd H3 L (.lst [.int 0, .int (n - wd), .int r, .int 0]))
    generalize upd H3 L (.lst [.int 0, .int (n - wd), .int r, .int 0]) = H4 at s3
    -- days
    refine ⟨_, rfl, _, rfl, by omega, by omega, fun D hDn => ?_⟩
    have dD := s3.dk.new hDn
    have fD := s3.free hDn
    refine lc_range (lo := 0) (n := ((m : Int)).toNat) (fun i H' => ∃ ds : List Int, Std H H' d g ∧ H' D = some (.lst (ds.map V.int)) ∧ ds.length = i ∧ ∀ x ∈ ds, 1 ≤ x ∧ x ≤ n) ⟨[], s3.new hDn, upd_same, rfl, fun _ h => absurd h List.not_mem_nil⟩ ?_ ?_
    · rintro i H5 hi ⟨ds, s5, eD, dl, hx⟩
      have hi2 : i < m := by
        have : i < ((m : Int)).toNat := hi
        omega
      refine ⟨rfl, _, rfl, _, _, rfl, rfl, _, rfl, _, rfl, d, g, wd, rfl, s5.dk, by omega, small_log (by omega), fun q H6 q0 q1 hD6 k6 => ⟨_, _, rfl, rfl, ds.map V.int, k6 _ _ eD dD.1 dD.2, ?_, ds ++ [low + 1 + q], (s5.draw hD6 k6).mut fD dD.1 dD.2, ?_, ?_, fun x hx' => ?_⟩⟩
      · rw [List.length_map]; exact small1000 (by omega)
      · rw [upd_same, List.map_append]; rfl
      · rw [List.length_append, dl]; rfl
      · rcases List.mem_append.mp hx' with h | h
        · exact hx x h
        · have := List.mem_singleton.mp h
          omega
    · rintro H5 ⟨ds, s5, eD, dl, hx⟩
      refine ⟨fun σ' H' => ∃ (D' : Addr) (ds : List Int), σ' = [some (V.ref d), some (V.int n), some (V.int (m : Int)), some (V.int way), some (V.int wd), some (V.int low), some (V.ref D'), none] ∧ Std H H' d g ∧ H D' = none ∧ H' D' = some (.lst (ds.map V.int)) ∧ D' ≠ d ∧ D' ≠ g ∧ ds.length = m ∧ ∀ x ∈ ds, 1 ≤ x ∧ x ≤ n, ?_, ?_⟩
      · refine ⟨_, rfl, rfl, _, rfl, ite2 (fun c => ?_) (fun c => ⟨D, ds, rfl, s5, fD, eD, dD.1, dD.2, by omega, hx⟩)⟩
        refine ⟨_, rfl, _, rfl, by omega, by omega, fun D2 hD2n => ?_⟩
        have dD2 := s5.dk.new hD2n
        have fD2 := s5.free hD2n
        refine lc_range (lo := 0) (n := ((m : Int)).toNat) (fun i H' => ∃ ds : List Int, Std H H' d g ∧ H' D2 = some (.lst (ds.map V.int)) ∧ ds.length = i ∧ ∀ x ∈ ds, 1 ≤ x ∧ x ≤ n) ⟨[], s5.new hD2n, upd_same, rfl, fun _ h => absurd h List.not_mem_nil⟩ ?_ ?_
        · rintro i H6 hi ⟨ds, s6, eD, dl, hx⟩
          have hi2 : i < m := by
            have : i < ((m : Int)).toNat := hi
            omega
          refine ⟨rfl, _, rfl, _, rfl, d, g, n, rfl, s6.dk, by omega, fun q H7 q0 q1 hD7 k7 => ⟨_, _, rfl, rfl, ds.map V.int, k7 _ _ eD dD2.1 dD2.2, ?_, ds ++ [1 + q], (s6.draw hD7 k7).mut fD2 dD2.1 dD2.2, ?_, ?_, fun x hx' => ?_⟩⟩
          · rw [List.length_map]; exact small1000 (by omega)
          · rw [upd_same, List.map_append]; rfl
          · rw [List.length_append, dl]; rfl
          · rcases List.mem_append.mp hx' with h | h
            · exact hx x h
            · have := List.mem_singleton.mp h
              omega
        · rintro H6 ⟨ds, s6, eD, dl, hx⟩
          exact ⟨D2, ds, rfl, s6, fD2, eD, dD2.1, dD2.2, by omega, hx⟩
      · rintro σ H6 ⟨D', ds, rfl, s6, fD', eD', n1, n2, dl, hx⟩
        exact ⟨_, rfl, k D' ds H6 s6 fD' ⟨eD', n1, n2⟩ dl hx⟩
/-! ### kept, by the law -/
theorem find_ix {z : Str} : ∀ {ts : List Str} {ds : List Int}, ts.length = ds.length → z ∈ ts → ∃ j : Nat, ts[j]? = some z ∧ (∀ m : Nat, m < j → ts[m]? ≠ some z) ∧ ds[j]? = some (look ts ds z)
  | [], _, _, h => absurd h List.not_mem_nil
  | _ :: _, [], h, _ => by cases h
  | t :: ts, d :: ds, hl, h => by
    by_cases e : t = z
    · refine ⟨0, congrArg some e, fun m hm => absurd hm (Nat.not_lt_zero m), ?_⟩
      unfold look
      rw [if_pos e]
      rfl
    · have h2 : z ∈ ts := by
        rcases List.mem_cons.mp h with x | x
        · exact absurd x.symm e
        · exact x
      obtain ⟨j, h3, h4, h5⟩ := find_ix (z := z) (Nat.succ.inj hl) h2
      refine ⟨j + 1, h3, fun m hm => ?_, ?_⟩
      · cases m with
        | zero => exact fun z => e (Option.some.inj z)
        | succ m => exact h4 m (Nat.lt_of_succ_lt_succ hm)
      · unfold look
        rw [if_neg e]
        exact h5
theorem eqV_strs (a b : Str) : eqV (V.str a) (V.str b) = decide (a = b) := by
  show (a == b) = _
  by_cases h : a = b
  · rw [decide_eq_true h]; exact beq_iff_eq.mpr h
  · rw [decide_eq_false h]; exact beq_eq_false_iff_ne.mpr h
def sp_lkept (K : PySem.W.Frag) : Sp := fun vs H Q _ => ∃ (a t p : Addr) (n : Int) (ts l : List Str) (ds : List Int), vs = [.ref a, .ref t, .int n, .ref p] ∧ SqT K H a (l.map V.str) ∧ SqL K H t (ts.map V.str) ∧ SqL K H p (ds.map V.int) ∧ RuleOk ts l ∧ ts.length = ds.length ∧ Q (.bl (keptB l n (look ts ds))) H
theorem ok_law_kept (T : Tx K w mg) : FnOk P w K mg base CX0 1 T.f_law_kept T.d_law_kept ["rule", "task_list", "last_day", "days"] (sp_lkept K) := by
  refine T.F_law_kept.ok sc_law_kept (fun vs H Q E h => ?_) (fun cdv A outer s H vs Q E hr h => ?_)
  · obtain ⟨a, t, p, n, ts, l, ds, rfl, _⟩ := h
    rfl
  · obtain ⟨a, t, p, n, ts, l, ds, rfl, hA, hT, hP, ok, hl, k⟩ := h
    refine ⟨_,
    (pss_cons
      (ps_set (i := 4) sc_law_kept.nd rfl (.inl rfl) (pe_ix ix_tup (pv 0) pe_int (fun _ _ => rfl)))
    (pss_cons
      (ps_set (i := 5) sc_law_kept.nd rfl (.inl rfl) (pe_ix ix_list (pv 3) (pe_bm PySem.F.plainAttrs_list PySem.F.slot_list_index PySem.F.type_list_index mt_index (pv 1) (pa_cons (pe_ix ix_tup (pv 0) pe_int (fun _ _ => rfl)) pa_nil)) (fun _ _ => rfl)))
    (pss_cons
      (ps_if (pt_cmpR op_eq (pv 4) pe_str (nomark _))
        (pss_one
          (ps_ret (pe_cmpR op_eq (pv 5) pe_int (nomark _))))
        pss_nil)
    (pss_cons
      (ps_if (pt_cmpR op_eq (pv 4) pe_str (nomark _))
        (pss_one
          (ps_ret (pe_cmpR op_eq (pv 5) (pv 2) (nomark _))))
        pss_nil)
    (pss_cons
      (ps_set (i := 6) sc_law_kept.nd rfl (.inl rfl) (pe_op op_sub (pe_ix ix_list (pv 3) (pe_bm PySem.F.plainAttrs_list PySem.F.slot_list_index PySem.F.type_list_index mt_index (pv 1) (pa_cons (pe_ix ix_tup (pv 0) pe_int (fun _ _ => rfl)) pa_nil)) (fun _ _ => rfl)) (pv 5)))
    (pss_cons
      (ps_if (pt_cmpR op_eq (pv 4) pe_str (nomark _))
        (pss_one
          (ps_ret (pe_cmpR op_gt (pv 6) pe_int (nomark _))))
        pss_nil)
    (pss_cons
      (ps_if (pt_cmpR op_eq (pv 4) pe_str (nomark _))
        (pss_one
          (ps_ret (pe_cmpR op_ge (pv 6) pe_int (nomark _))))
        pss_nil)
    (pss_cons
      (ps_if (pt_cmpR op_eq (pv 4) pe_str (nomark _))
        (pss_one
          (ps_ret (pe_cmpR op_eq (pv 6) pe_int (nomark _))))
        pss_nil)
    (pss_cons
      (ps_if (pt_cmpR op_eq (pv 4) pe_str (nomark _))
        (pss_one
          (ps_ret (pe_cmpR op_ne (pv 6) pe_int (nomark _))))
        pss_nil)
    (pss_cons
      (ps_if (pt_cmpR op_eq (pv 4) pe_str (nomark _))
        (pss_one
          (ps_ret (pe_cmpR op_gt (pv 6) pe_int (nomark _))))
        pss_nil)
    (pss_one
      (ps_ret (pe_cmpR op_eq (pv 6) pe_int (nomark _)))))))))))))), ?_⟩
    have as : ∀ {b b' : Bool}, b = b' → Q (.bl b) H → Q (.bl b') H := fun e h => e ▸ h
    have ix : ∀ z : Str, z ∈ ts → ∃ j : Nat, (ts.map V.str)[j]? = some (V.str z) ∧ (∀ (m : Nat) (z' : V), m < j → (ts.map V.str)[m]? = some z' → eqV z' (V.str z) = false) ∧ (ds.map V.int)[j]? = some (V.int (look ts ds z)) := fun z h => by
      obtain ⟨j, h1, h2, h3⟩ := find_ix hl h
      refine ⟨j, by rw [List.getElem?_map, h1]; rfl, fun m z' hm e => ?_, by rw [List.getElem?_map, h3]; rfl⟩
      rw [List.getElem?_map] at e
      obtain ⟨y, hy, rfl⟩ := Option.map_eq_some_iff.mp e
      rw [eqV_strs]
      exact decide_eq_false fun x => h2 m hm (x ▸ hy)
    rcases ok with ⟨kd, x, hk, hx, rfl⟩ | ⟨kd, x, y, hk, hx, hy, _, rfl⟩
    · obtain ⟨j, j1, j2, j3⟩ := ix x hx
      refine ⟨_, rfl, a, _, _, _, rfl, rfl, hA, atI_nat (j := 0) rfl, _, rfl, _, rfl, .inl ⟨rfl, _, hT⟩, _, rfl, a, _, _, _, rfl, rfl, hA, atI_nat (j := 1) rfl, t, _, V.str x, j, _, rfl, rfl, hT, rfl, flat_strs _, j1, ?_, j2, p, _, _, _, rfl, rfl, hP, atI_nat j3, ?_⟩
      · rw [eqV_strs]; exact decide_eq_true rfl
      refine ⟨_, rfl, rfl, _, rfl, ite2 (fun c => ?_) (fun c => ?_)⟩
      · refine ⟨_, rfl, rfl, as ?_ k⟩
        rw [dI]
        exact if_pos (dS c)
      · have c1 := dSN c
        have c2 : kd = "last" := (two_is hk).resolve_left c1
        refine ⟨_, rfl, rfl, _, rfl, iteD (congrArg V.str c2) ⟨_, rfl, _, rfl, rfl, as ?_ k⟩⟩
        rw [dI]
        exact (if_neg c1).trans (if_pos c2)
    · obtain ⟨n1, n2⟩ := six_not hk
      obtain ⟨j, j1, j2, j3⟩ := ix x hx
      obtain ⟨i, i1, i2, i3⟩ := ix y hy
      refine ⟨_, rfl, a, _, _, _, rfl, rfl, hA, atI_nat (j := 0) rfl, _, rfl, _, rfl, .inl ⟨rfl, _, hT⟩, _, rfl, a, _, _, _, rfl, rfl, hA, atI_nat (j := 1) rfl, t, _, V.str x, j, _, rfl, rfl, hT, rfl, flat_strs _, j1, ?_, j2, p, _, _, _, rfl, rfl, hP, atI_nat j3, ?_⟩
      · rw [eqV_strs]; exact decide_eq_true rfl
      refine ⟨_, rfl, rfl, _, rfl, iteND (fun z => n1 (V.str.inj z)) ⟨_, rfl, rfl, _, rfl, iteND (fun z => n2 (V.str.inj z)) ?_⟩⟩
      refine ⟨_, rfl, _, rfl, .inl ⟨rfl, _, hT⟩, _, rfl, a, _, _, _, rfl, rfl, hA, atI_nat (j := 2) rfl, t, _, V.str y, i, _, rfl, rfl, hT, rfl, flat_strs _, i1, ?_, i2, p, _, _, _, rfl, rfl, hP, atI_nat i3, _, rfl, _, _, rfl, rfl, ?_⟩
      · rw [eqV_strs]; exact decide_eq_true rfl
      generalize look ts ds = f at k ⊢
      have k' : Q (.bl (if kd = "before" then decide (0 < f y - f x) else if kd = "upto" then decide (0 ≤ f y - f x) else if kd = "same" then decide (f y - f x = 0) else if kd = "apart" then !decide (f y - f x = 0) else if kd = "far" then decide (2 ≤ f y - f x) else decide (f y - f x = 1))) H :=
        as ((if_neg n1).trans (if_neg n2)) k
      refine ⟨_, rfl, rfl, _, rfl, ite2 (fun c => ⟨_, rfl, _, _, rfl, rfl, as (if_pos (dS c)) k'⟩) (fun c => ?_)⟩
      have k' := as (if_neg (dSN c)) k'
      refine ⟨_, rfl, rfl, _, rfl, ite2 (fun c => ⟨_, rfl, _, _, rfl, rfl, as (if_pos (dS c)) k'⟩) (fun c => ?_)⟩
      have k' := as (if_neg (dSN c)) k'
      refine ⟨_, rfl, rfl, _, rfl, ite2 (fun c => ⟨_, rfl, rfl, as ((if_pos (dS c)).trans (dI _ _).symm) k'⟩) (fun c => ?_)⟩
      have k' := as (if_neg (dSN c)) k'
      refine ⟨_, rfl, rfl, _, rfl, ite2 (fun c => ⟨_, rfl, rfl, as ((if_pos (dS c)).trans (congrArg Bool.not (dI _ _).symm)) k'⟩) (fun c => ?_)⟩
      have k' := as (if_neg (dSN c)) k'
      refine ⟨_, rfl, rfl, _, rfl, ite2 (fun c => ⟨_, rfl, _, _, rfl, rfl, as ((if_pos (dS c)).trans (decide_eq_decide.mpr (by omega))) k'⟩) (fun c => ?_)⟩
      have k' := as (if_neg (dSN c)) k'
      exact ⟨_, rfl, rfl, as (dI _ _).symm k'⟩
/-! ### plans, by the law -/
def sp_isplan (K : PySem.W.Frag) : Sp := fun vs H Q _ => ∃ (t r p : Addr) (n : Int) (ts : List Str) (as : List Addr) (ls : List (List Str)) (ds : List Int), vs = [.ref t, .ref r, .int n, .ref p] ∧ SqL K H t (ts.map V.str) ∧ SqL K H r (as.map V.ref) ∧ Rls ts H as ls ∧ SqL K H p (ds.map V.int) ∧ ds.length ≤ 5000 ∧ as.length ≤ 1000 ∧
  ∀ H', Same H H' → Q (.bl (planB ts ls n ds)) H'
theorem filter_none {α : Type} (q : α → Bool) (xs : List α) : ((xs.filter fun x => !q x).length = 0) ↔ xs.all q = true := by
  rw [List.length_eq_zero_iff, List.filter_eq_nil_iff, List.all_eq_true]
  constructor
  · intro h x hx
    have := h x hx
    simpa using this
  · intro h x hx
    rw [h x hx]
    decide
theorem filter_one {α : Type} {q : α → Bool} {x : α} (h : q x = true) : List.filter q [x] = [x] := by
  rw [List.filter_cons_of_pos h]
  rfl
theorem filter_zero {α : Type} {q : α → Bool} {x : α} (h : ¬ q x = true) : List.filter q [x] = [] := by
  rw [List.filter_cons_of_neg h]
  rfl
theorem ok_law_is_plan (T : Tx K w mg) : FnOk P w K mg base CX0 2 T.f_law_is_plan T.d_law_is_plan ["task_list", "rule_list", "last_day", "days"] (sp_isplan K) := by
  refine T.F_law_is_plan.ok sc_law_is_plan (fun vs H Q E h => ?_) (fun cdv A outer s H vs Q E hr h => ?_)
  · obtain ⟨t, r, p, n, ts, as, ls, ds, rfl, _⟩ := h
    rfl
  · obtain ⟨t, r, p, n, ts, as, ls, ds, rfl, hT, hR, rls, hP, f3, f4, k⟩ := h
    refine ⟨_,
    (pss_cons
      (ps_if (PW.pt (pw_or (pt_cmpR op_ne (pe_callB call_len_seq (by rfl) T.m_len (by decide +kernel) (pa_cons (pv 3) pa_nil)) (pe_callB call_len_seq (by rfl) T.m_len (by decide +kernel) (pa_cons (pv 0) pa_nil)) (nomark _)) (pw_or1 (pt_cmpR op_gt (pe_callB call_len_seq (by rfl) T.m_len (by decide +kernel) (pa_cons (pe_lc (own := [("day", 4)]) (g := gName 4) rfl sc_law_is_plan.nd (pi_list (pv 3)) (blkOk_by (N := ["task_list", "rule_list", "last_day", "days", "day", "rule"]) (sc := defScope s_law_is_plan) (own := [("day", 4)]) (by decide +kernel)) (fun _ _ _ _ _ => (pg_name (i := 4) sc_law_is_plan.nd rfl (.inl rfl))) (fun _ _ _ _ _ => (pts_one (PW.pt (pw_or (pt_cmpR op_lt (pv 4) pe_int (nomark _)) (pw_or1 (pt_cmpR op_gt (pv 4) (pv 2) (nomark _))))))) (fun _ _ _ _ _ => (pv 4))) pa_nil)) pe_int (nomark _)))))
        (pss_one
          (ps_ret pe_bl))
        pss_nil)
    (pss_one
      (ps_ret (pe_cmpR op_eq (pe_callB call_len_seq (by rfl) T.m_len (by decide +kernel) (pa_cons (pe_lc (own := [("rule", 5)]) (g := gName 5) rfl sc_law_is_plan.nd (pi_list (pv 1)) (blkOk_by (N := ["task_list", "rule_list", "last_day", "days", "day", "rule"]) (sc := defScope s_law_is_plan) (own := [("rule", 5)]) (by decide +kernel)) (fun _ _ _ _ _ => (pg_name (i := 5) sc_law_is_plan.nd rfl (.inl rfl))) (fun _ _ _ _ _ => (pts_one (pt_not (pt_val (pe_call (ok_law_kept T) hr (by rfl) T.g_law_kept T.F_law_kept.kp T.b_law_kept .nil pass0 (pa_cons (pv 5) (pa_cons (pv 0) (pa_cons (pv 2) (pa_cons (pv 3) pa_nil))))))))) (fun _ _ _ _ _ => (pv 5))) pa_nil)) pe_int (nomark _))))), ?_⟩
    refine ⟨_, rfl, p, _, rfl, .inl hP, _, rfl, t, _, rfl, .inl hT, rfl, _, rfl, ite2 (fun c => ?_) (fun c => ?_)⟩
    · have hne : ds.length ≠ ts.length := fun z => by
        rw [List.length_map, List.length_map, z, decide_eq_true rfl] at c
        exact Bool.false_ne_true c
      have k1 := k H (Same.refl H)
      have e : planB ts ls n ds = false := by
        unfold planB
        rw [decide_eq_false hne]
        rfl
      rw [e] at k1
      exact k1
    have hlen : ds.length = ts.length := by
      have h2 : decide (V.int (((ds.map V.int).length : Nat) : Int) = V.int (((ts.map V.str).length : Nat) : Int)) = true := by simpa using c
      have := V.int.inj (of_decide_eq_true h2)
      rw [List.length_map, List.length_map] at this
      omega
    refine ⟨_, rfl, p, rfl, ⟨_, hP⟩, fun D hD => ?_⟩
    refine lc_list (xs := ds.map V.int) (fun i H' => H' D = some (.lst (((ds.take i).filter fun d => !(decide (1 ≤ d) && decide (d ≤ n))).map V.int)) ∧ Same H H') ⟨upd_same, same_upd hD⟩ (fun i H' _ h => h.2.seq hP) ?_ ?_
    · rintro i v H1 hi ⟨eD, sm⟩
      have hil := (List.getElem?_eq_some_iff.mp hi).1
      rw [List.length_map] at hil
      rw [List.getElem?_map] at hi
      obtain ⟨d, hd, rfl⟩ := Option.map_eq_some_iff.mp hi
      have et : ds.take (i + 1) = ds.take i ++ [d] := by rw [List.take_add_one, hd]; rfl
      have room : ((((ds.take i).filter fun d => !(decide (1 ≤ d) && decide (d ≤ n))).map V.int)).length < sizeLine := by
        rw [List.length_map]
        refine Nat.lt_of_le_of_lt (Nat.le_trans (List.length_filter_le _ _) ?_) (show 5000 < sizeLine by decide)
        rw [List.length_take]
        omega
      have bad : (!(decide (1 ≤ d) && decide (d ≤ n))) = true → H1 D = some (.lst (((ds.take i).filter fun d => !(decide (1 ≤ d) && decide (d ≤ n))).map V.int)) ∧ ((((ds.take i).filter fun d => !(decide (1 ≤ d) && decide (d ≤ n))).map V.int)).length < sizeLine ∧
          (upd H1 D (.lst ((((ds.take i).filter fun d => !(decide (1 ≤ d) && decide (d ≤ n))).map V.int) ++ [V.int d]))) D = some (.lst (((ds.take (i + 1)).filter fun d => !(decide (1 ≤ d) && decide (d ≤ n))).map V.int)) ∧ Same H (upd H1 D (.lst ((((ds.take i).filter fun d => !(decide (1 ≤ d) && decide (d ≤ n))).map V.int) ++ [V.int d]))) := fun hb => by
        refine ⟨eD, room, ?_, fun b o e => ?_⟩
        · rw [upd_same, et, List.filter_append, List.map_append]
          have : List.filter (fun d => !(decide (1 ≤ d) && decide (d ≤ n))) [d] = [d] := filter_one hb
          rw [this]
          rfl
        · rw [upd_ne (ne_of_none e hD)]
          exact sm b o e
      refine ⟨rfl, _, rfl, _, _, rfl, rfl, _, rfl, ite2 (fun c1 => ?_) (fun c1 => ?_)⟩
      · have h1 : d < 1 := of_decide_eq_true c1
        exact ⟨_, rfl, _, bad (by rw [decide_eq_false (show ¬ 1 ≤ d by omega)]; rfl)⟩
      · have h1 : ¬ d < 1 := fun z => c1 (decide_eq_true z)
        refine ⟨_, rfl, _, rfl, _, _, rfl, rfl, _, rfl, ite2 (fun c2 => ?_) (fun c2 => ?_)⟩
        · have h2 : n < d := of_decide_eq_true c2
          exact ⟨_, rfl, _, bad (by rw [decide_eq_false (show ¬ d ≤ n by omega), Bool.and_false]; rfl)⟩
        · have h2 : ¬ n < d := fun z => c2 (decide_eq_true z)
          refine ⟨?_, sm⟩
          rw [eD, et, List.filter_append]
          have : List.filter (fun d => !(decide (1 ≤ d) && decide (d ≤ n))) [d] = [] := filter_zero (by
            show ¬ (!(decide (1 ≤ d) && decide (d ≤ n))) = true
            rw [decide_eq_true (show 1 ≤ d by omega), decide_eq_true (show d ≤ n by omega)]
            decide)
          rw [this, List.append_nil]
    · rintro H1 ⟨eD, sm⟩
      rw [List.length_map, List.take_length] at eD
      refine ⟨D, _, rfl, .inl (.of eD), _, _, rfl, rfl, _, rfl, ite2 (fun c1 => ?_) (fun c1 => ?_)⟩
      · have h1 : (0 : Int) < ((((ds.filter fun d => !(decide (1 ≤ d) && decide (d ≤ n))).map V.int).length : Nat) : Int) := of_decide_eq_true c1
        rw [List.length_map] at h1
        have hf : ¬ (ds.all fun d => decide (1 ≤ d) && decide (d ≤ n)) = true := fun z => by
          have := (filter_none (fun d => decide (1 ≤ d) && decide (d ≤ n)) ds).mpr z
          omega
        have k1 := k H1 sm
        have e : planB ts ls n ds = false := by
          unfold planB
          rw [Bool.eq_false_iff.mpr hf, Bool.and_false, Bool.false_and]
        rw [e] at k1
        exact k1
      · have h1 : ¬ (0 : Int) < ((((ds.filter fun d => !(decide (1 ≤ d) && decide (d ≤ n))).map V.int).length : Nat) : Int) := fun z => c1 (decide_eq_true z)
        rw [List.length_map] at h1
        have hall := (filter_none (fun d => decide (1 ≤ d) && decide (d ≤ n)) ds).mp (by omega)
        refine ⟨_, rfl, r, rfl, ⟨_, sm.seq hR⟩, fun D2 hD2 => ?_⟩
        have alen := rls.len
        refine lc_list (xs := as.map V.ref) (fun i H' => ∃ bs : List Addr, H' D2 = some (.lst (bs.map V.ref)) ∧ bs.length = ((ls.take i).filter fun l => !keptB l n (look ts ds)).length ∧ bs.length ≤ i ∧ Same H1 H') ⟨[], upd_same, rfl, Nat.le_refl _, same_upd hD2⟩ ?_ ?_ ?_
        · rintro i H' _ ⟨bs, _, _, _, s2⟩
          exact s2.seq (sm.seq hR)
        · rintro i v H3 hi ⟨bs, eD2, bl, bi, s3⟩
          have hil := (List.getElem?_eq_some_iff.mp hi).1
          rw [List.length_map] at hil
          rw [List.getElem?_map] at hi
          obtain ⟨a, ha, rfl⟩ := Option.map_eq_some_iff.mp hi
          obtain ⟨l, hl, ea, rok⟩ := rls.at ha
          have s13 := sm.trans s3
          have et : ls.take (i + 1) = ls.take i ++ [l] := by rw [List.take_add_one, hl]; rfl
          refine ⟨rfl, _, rfl, _, rfl, _, rfl, _, rfl, a, t, p, n, ts, l, ds, rfl, .of (s13 _ _ ea), s13.seq hT, s13.seq hP, rok, hlen.symm, _, rfl, ite2 (fun c2 => ?_) (fun c2 => ?_)⟩
          · refine ⟨_, rfl, bs.map V.ref, eD2, ?_, bs ++ [a], ?_, ?_, ?_, fun b o e => ?_⟩
            · rw [List.length_map]; exact small1000 (by omega)
            · rw [upd_same, List.map_append]; rfl
            · have : List.filter (fun l => !keptB l n (look ts ds)) [l] = [l] := filter_one c2
              rw [et, List.filter_append, List.length_append, List.length_append, bl, this]
              rfl
            · rw [List.length_append]; exact Nat.succ_le_succ bi
            · rw [upd_ne (ne_of_none e hD2)]
              exact s3 b o e
          · have : List.filter (fun l => !keptB l n (look ts ds)) [l] = [] := filter_zero c2
            exact ⟨bs, eD2, by rw [et, List.filter_append, this, List.append_nil]; exact bl, by omega, s3⟩
        · rintro H3 ⟨bs, eD2, bl, bi, s3⟩
          rw [List.length_map, alen, List.take_length] at bl
          refine ⟨D2, _, rfl, .inl (.of eD2), rfl, ?_⟩
          have k1 := k H3 (sm.trans s3)
          have e : planB ts ls n ds = decide (V.int (((bs.map V.ref).length : Nat) : Int) = V.int 0) := by
            unfold planB
            rw [hall, decide_eq_true hlen, Bool.true_and, Bool.true_and, dI, List.length_map, bl]
            by_cases h : (ls.all fun l => keptB l n (look ts ds)) = true
            · rw [h]
              have := (filter_none (fun l => keptB l n (look ts ds)) ls).mpr h
              rw [this]
              rfl
            · rw [Bool.eq_false_iff.mpr h]
              refine (decide_eq_false fun z => h ((filter_none (fun l => keptB l n (look ts ds)) ls).mp ?_)).symm
              omega
          rw [e] at k1
          exact k1
/-! ### books out of books -/
def PostB (C : Addr) (H : Hp) (ts : List Str) (ls : List (List Str)) (Q : VK) : Prop := ∀ (x dx p q : Addr) (as : List Addr) (H' : Hp), Same H H' → H p = none → H q = none → H' x = some (.ins C dx (fl p q)) → H' p = some (.lst (ts.map V.str)) → H' q = some (.lst (as.map V.ref)) → Rls ts H' as ls → Q (.ref x) H'
theorem mkB {C : Addr} {H H1 : Hp} {t D : Addr} {ts : List Str} {bs : List Addr} {ls : List (List Str)} {R : Addr → Hp → Prop} {E : XK} (sm : Same H H1) (ht : H1 t = some (.lst (ts.map V.str))) (eD : H1 D = some (.lst (bs.map V.ref))) (rb : Rls ts H1 bs ls) (ok : TasksOk ts) (k : ∀ (x dx p q : Addr) (as : List Addr) (H' : Hp), Same H H' → H p = none → H q = none → H' x = some (.ins C dx (fl p q)) → H' p = some (.lst (ts.map V.str)) → H' q = some (.lst (as.map V.ref)) → Rls ts H' as ls → R x H') :
    ∀ x dx, H1 x = none → H1 dx = none → dx ≠ x → sp_init K C [.ref x, .ref t, .ref D] (upd (upd H1 dx (.own x)) x (.ins C dx [])) (fun v H' => v = V.non ∧ R x H') E := by
  have sq : ∀ {H : Hp} {x dx b : Addr} {o : HO}, H x = none → H dx = none → H b = some o → (upd (upd H dx (.own x)) x (.ins C dx [])) b = some o := fun hx hdx e => by
    rw [upd_ne (ne_of_none e hx), upd_ne (ne_of_none e hdx)]; exact e
  refine fun x dx hx hdx ne => ⟨x, dx, t, D, ts, bs, rfl, upd_same, .of (sq hx hdx ht), .of (sq hx hdx eD), ok, fun u hu => ?_, fun p q H2 fp fq ex ep eq kp => ⟨rfl, ?_⟩⟩
  · obtain ⟨l, e, h⟩ := rb.mem hu
    exact ⟨l, .of (sq hx hdx e), h⟩
  have s2 : Same H1 H2 := Same.made hx hdx kp
  have free : ∀ {p : Addr}, (upd (upd H1 dx (.own x)) x (.ins C dx [])) p = none → H1 p = none := fun {p} f => by
    cases h : H1 p with
    | none => rfl
    | some o =>
      rw [sq hx hdx h] at f
      cases f
  exact k x dx p q bs H2 (sm.trans s2) (sm.free (free fp)) (sm.free (free fq)) ex ep eq (rb.keep (Same.tk s2))
theorem Rls.take {ts : List Str} {H : Hp} : ∀ {as : List Addr} {ls : List (List Str)} (n : Nat), Rls ts H as ls → Rls ts H (as.take n) (ls.take n)
  | _, _, 0, _ => by simpa using Rls.nil
  | _, _, _ + 1, .nil => .nil
  | _, _, n + 1, .cons h k r => .cons h k (r.take n)
theorem Rls.drop {ts : List Str} {H : Hp} : ∀ {as : List Addr} {ls : List (List Str)} (n : Nat), Rls ts H as ls → Rls ts H (as.drop n) (ls.drop n)
  | _, _, 0, r => by simpa using r
  | _, _, _ + 1, .nil => .nil
  | _, _, n + 1, .cons _ _ r => r.drop n
theorem Rls.app {ts : List Str} {H : Hp} {bs : List Addr} {ms : List (List Str)} (h2 : Rls ts H bs ms) : ∀ {as : List Addr} {ls : List (List Str)}, Rls ts H as ls → Rls ts H (as ++ bs) (ls ++ ms)
  | _, _, .nil => h2
  | _, _, .cons h n r => .cons h n (h2.app r)
def sp_with (K : PySem.W.Frag) (C : Addr) : Sp := fun vs H Q _ => ∃ (b r : Addr) (ts : List Str) (ls ms : List (List Str)) (as : List Addr), vs = [.ref b, .ref r] ∧ BkR K C H b ts ls ∧ H r = some (.lst (as.map V.ref)) ∧ Rls ts H as ms ∧ TasksOk ts ∧ ls.length ≤ 400 ∧ ms.length ≤ 400 ∧ PostB C H ts (ls ++ ms) Q
theorem ok_Book_with_rules (T : Tx K w mg) : FnOk P w K mg base CX0 5 T.f_Book_with_rules T.d_Book_with_rules ["self", "rules"] (sp_with K T.C_Book) := by
  refine T.F_Book_with_rules.ok sc_Book_with_rules (fun vs H Q E h => ?_) (fun cdv A outer s H vs Q E hr h => ?_)
  · obtain ⟨b, r, ts, ls, ms, as, rfl, _⟩ := h
    rfl
  · obtain ⟨b, r, ts, ls, ms, as, rfl, ⟨bx, t, br, bs, hb, ht, hR, rls⟩, hr', rms, ok, f1, f2, k⟩ := h
    refine ⟨_,
    (pss_one
      (ps_ret (pe_make T.mk_Book (ok_Book_init T) hr (by rfl) T.mg_Book T.b_Book_init .nil pass0 (pa_cons (pe_fld (pv 0) rfl) (pa_cons (pe_op op_cat (pe_fld (pv 0) rfl) (pv 1)) pa_nil))))), ?_⟩
    have l1 := rls.len
    have l2 := rms.len
    refine ⟨_, rfl, b, T.C_Book, bx, _, _, rfl, hb, T.cl_Book, T.n_Book_tasks, fl_t t br, _, rfl, b, T.C_Book, bx, _, _, rfl, hb, T.cl_Book, T.n_Book_rules, fl_r t br, _, rfl, br, r, _, _, rfl, rfl, hR, hr', ?_, fun p hp => ?_⟩
    · rw [List.length_map, List.length_map]; exact Nat.le_of_lt (small1000 (by omega))
    have sp := same_upd (o := .lst (bs.map V.ref ++ as.map V.ref)) hp
    exact mkB sp (sp _ _ ht) (by rw [upd_same, ← List.map_append]) ((rms.keep (Same.tk sp)).app (rls.keep (Same.tk sp))) ok k
theorem kit_own {K : PySem.W.Frag} {C : Addr} {n : String} {ms : List String} {t : Value} {b : Bool} (hm : PySem.W.mroIn K C t = some b) (ht : PySem.W.typeIn K (.ref C) = some (.type "type")) (e : fastBuiltinMro n = some (ms.map Value.type)) : PySem.W.kitOne K (.type n) (.ref C) = some false := by
  have hc : (PySem.W.clsIn K C).isSome = true := by
    cases h : PySem.W.clsIn K C with
    | some _ => rfl
    | none =>
      unfold PySem.W.mroIn at hm
      rw [h] at hm
      cases hm
  unfold PySem.W.kitOne
  rw [if_neg (by simp)]
  show (if ((PySem.W.clsIn K C).isSome && PySem.W.typeIn K (.ref C) == some (.type "type")) = true then PySem.W.subIn K (.type n) (.ref C) else none) = some false
  rw [if_pos (by rw [hc, ht]; decide)]
  exact sub_builtin e
theorem kind_ty {K : PySem.W.Frag} {H : Hp} {C : Addr} {z : V} {t : Value} {b : Bool} (hz : Kind H z) (hm : PySem.W.mroIn K C t = some b) (ht : PySem.W.typeIn K (.ref C) = some (.type "type")) : ∃ tz, TyOf K H z tz ∧ PySem.W.kitOne K tz (.ref C) = some false := by
  rcases hz with rfl | ⟨i, rfl⟩ | ⟨x, rfl⟩ | ⟨a, xs, rfl, e⟩ | ⟨a, xs, rfl, e⟩
  · exact ⟨_, .non, kit_own (ms := ["NoneType", "object"]) hm ht (by decide +kernel)⟩
  · exact ⟨_, .int i, kit_own (ms := ["int", "object"]) hm ht (by decide +kernel)⟩
  · exact ⟨_, .str x, kit_own (ms := ["str", "object"]) hm ht (by decide +kernel)⟩
  · exact ⟨_, .lst e, kit_own (ms := ["list", "object"]) hm ht (by decide +kernel)⟩
  · exact ⟨_, .tup e, kit_own (ms := ["tuple", "object"]) hm ht (by decide +kernel)⟩
def sp_beq (K : PySem.W.Frag) (C : Addr) : Sp := fun vs H Q _ => ∃ (a : Addr) (z : V) (ts : List Str) (ls : List (List Str)), vs = [.ref a, z] ∧ BkR K C H a ts ls ∧ TasksOk ts ∧
  ((Kind H z ∧ Q (.bl false) H) ∨ ∃ (b : Addr) (us : List Str) (ms : List (List Str)), z = .ref b ∧ BkR K C H b us ms ∧ TasksOk us ∧ Q (.bl (PyData.eqv (tdata ts) (tdata us) && PyData.eqv (rsdata ls) (rsdata ms))) H)
theorem ok_Book_eq (T : Tx K w mg) : FnOk P w K mg base CX0 1 T.f_Book_eq T.d_Book_eq ["self", "other"] (sp_beq K T.C_Book) := by
  refine T.F_Book_eq.ok sc_Book_eq (fun vs H Q E h => ?_) (fun cdv A outer s H vs Q E hr h => ?_)
  · obtain ⟨a, z, ts, ls, rfl, _⟩ := h
    rfl
  · obtain ⟨a, z, ts, ls, rfl, ⟨ax, at1, ar, as, ha, hat, har, rla⟩, oka, h⟩ := h
    refine ⟨_,
    (pss_one
      (ps_ret (pe_and (pe_callB call_isi (by rfl) T.m_isinstance (by decide +kernel) (pa_cons (pv 1) (pa_cons (pe_glob (v := .ref T.C_Book) (by rfl) T.mg_Book rfl) pa_nil))) (pe_and (pe_cmpR (op_eqD hr.units) (pe_fld (pv 0) rfl) (pe_fld (pv 1) rfl) (nomark _)) (pe_one (pe_cmpR (op_eqD hr.units) (pe_fld (pv 0) rfl) (pe_fld (pv 1) rfl) (nomark _))))))), ?_⟩
    have self : PySem.W.kitOne K (.ref T.C_Book) (.ref T.C_Book) = some true := if_pos (beq_self_eq_true _)
    rcases h with ⟨hz, k⟩ | ⟨b, us, ms, rfl, ⟨bx, bt, br, bs, hb, hbt, hbr, rlb⟩, okb, k⟩
    · obtain ⟨tz, ty, kt⟩ := kind_ty hz T.xm_Book T.tc_Book
      refine ⟨_, rfl, _, _, _, _, false, rfl, .own T.C_Book, .base ty, kt, _, rfl, ?_⟩
      exact k
    · refine ⟨_, rfl, _, _, _, _, true, rfl, .own T.C_Book, .base (.ins hb T.cl_Book T.xa_Book T.xn_Book T.xt_Book T.xm_Book), self, _, rfl, ?_⟩
      have oa := rsdata_ok oka rla.all
      have ob := rsdata_ok okb rlb.all
      refine ⟨_, rfl, a, T.C_Book, ax, _, _, rfl, ha, T.cl_Book, T.n_Book_tasks, fl_t at1 ar, _, rfl, b, T.C_Book, bx, _, _, rfl, hb, T.cl_Book, T.n_Book_tasks, fl_t bt br, tdata ts, tdata us, .lst (.of hat) dp_strs, .lst (.of hbt) dp_strs, tdata_ok oka, tdata_ok okb, _, rfl, ite2 (fun c => ?_) (fun c => ?_)⟩
      · refine ⟨_, rfl, a, T.C_Book, ax, _, _, rfl, ha, T.cl_Book, T.n_Book_rules, fl_r at1 ar, _, rfl, b, T.C_Book, bx, _, _, rfl, hb, T.cl_Book, T.n_Book_rules, fl_r bt br, rsdata ls, rsdata ms, .lst (.of har) rla.dp, .lst (.of hbr) rlb.dp, oa, ob, ?_⟩
        rw [c, Bool.true_and] at k
        exact k
      · rw [Bool.eq_false_iff.mpr c, Bool.false_and] at k
        exact k
def sp_wout (K : PySem.W.Frag) (C : Addr) : Sp := fun vs H Q _ => ∃ (b : Addr) (i : Nat) (ts : List Str) (ls : List (List Str)), vs = [.ref b, .int i] ∧ BkR K C H b ts ls ∧ TasksOk ts ∧ i < ls.length ∧ ls.length ≤ 400 ∧ PostB C H ts (ls.take i ++ ls.drop (i + 1)) Q
theorem ok_Book_without (T : Tx K w mg) : FnOk P w K mg base CX0 5 T.f_Book_without T.d_Book_without ["self", "index"] (sp_wout K T.C_Book) := by
  refine T.F_Book_without.ok sc_Book_without (fun vs H Q E h => ?_) (fun cdv A outer s H vs Q E hr h => ?_)
  · obtain ⟨b, i, ts, ls, rfl, _⟩ := h
    rfl
  · obtain ⟨b, i, ts, ls, rfl, ⟨bx, t, br, bs, hb, ht, hR, rls⟩, ok, hi, few, k⟩ := h
    refine ⟨_,
    (pss_cons
      (ps_if (pt_not (pt_chain op_le op_lt pe_int (pv 1) (pe_callB call_len_seq (by rfl) T.m_len (by decide +kernel) (pa_cons (pe_fld (pv 0) rfl) pa_nil))))
        (pss_one
          ps_never)
        pss_nil)
    (pss_one
      (ps_ret (pe_make T.mk_Book (ok_Book_init T) hr (by rfl) T.mg_Book T.b_Book_init .nil pass0 (pa_cons (pe_fld (pv 0) rfl) (pa_cons (pe_op op_cat (pe_slice sl_list (pe_fld (pv 0) rfl) po_none (po_some (pv 1))) (pe_slice sl_list (pe_fld (pv 0) rfl) (po_some (pe_op op_add (pv 1) pe_int)) po_none)) pa_nil)))))), ?_⟩
    have l1 := rls.len
    refine ⟨_, rfl, _, _, rfl, rfl, _, rfl, iteD (show (0 : Int) ≤ (i : Int) by omega) ⟨_, rfl, b, T.C_Book, bx, _, _, rfl, hb, T.cl_Book, T.n_Book_rules, fl_r t br, br, _, rfl, .inl (.of hR), _, _, rfl, rfl, _, rfl, iteNS ?_ ?_⟩⟩
    · show (i : Int) < ((bs.map V.ref).length : Int)
      rw [List.length_map]
      omega
    refine ⟨_, rfl, b, T.C_Book, bx, _, _, rfl, hb, T.cl_Book, T.n_Book_tasks, fl_t t br, _, rfl, b, T.C_Book, bx, _, _, rfl, hb, T.cl_Book, T.n_Book_rules, fl_r t br, _, rfl, _, rfl, br, _, rfl, .of hR, fun p hp => ?_⟩
    have sp := same_upd (o := .lst (cutV (bs.map V.ref) none (some (i : Int)))) hp
    have ep : (upd H p (.lst (cutV (bs.map V.ref) none (some (i : Int))))) p = some (.lst ((bs.take i).map V.ref)) := by rw [upd_same, cut_take, List.map_take]
    generalize upd H p (.lst (cutV (bs.map V.ref) none (some (i : Int)))) = H1 at sp ep
    refine ⟨_, rfl, b, T.C_Book, bx, _, _, rfl, sp _ _ hb, T.cl_Book, T.n_Book_rules, fl_r t br, _, rfl, _, _, rfl, rfl, _, rfl, br, _, rfl, .of (sp _ _ hR), fun p2 hp2 => ?_⟩
    have s2 := same_upd (o := .lst (cutV (bs.map V.ref) (some ((i : Int) + 1)) none)) hp2
    have e2 : (upd H1 p2 (.lst (cutV (bs.map V.ref) (some ((i : Int) + 1)) none))) p2 = some (.lst ((bs.drop (i + 1)).map V.ref)) := by
      rw [upd_same, show (i : Int) + 1 = ((i + 1 : Nat) : Int) by omega, cut_drop, List.map_drop]
    have ep2 := s2 _ _ ep
    have s12 := sp.trans s2
    generalize upd H1 p2 (.lst (cutV (bs.map V.ref) (some ((i : Int) + 1)) none)) = H2 at s2 e2 ep2 s12
    refine ⟨p, p2, _, _, rfl, rfl, ep2, e2, ?_, fun p3 hp3 => ?_⟩
    · rw [List.length_map, List.length_map, List.length_take, List.length_drop]; exact Nat.le_of_lt (small1000 (by omega))
    have s3 := s12.trans (same_upd (o := .lst ((bs.take i).map V.ref ++ (bs.drop (i + 1)).map V.ref)) hp3)
    exact mkB s3 (s3 _ _ ht) (by rw [upd_same, ← List.map_append]) (((rls.drop (i + 1)).keep (Same.tk s3)).app ((rls.take i).keep (Same.tk s3))) ok k
/-! ### the books joined: any tasks -/
def uni (ts us : List Str) : List Str := ts ++ us.filter fun z => decide (z ∉ ts)
theorem uni_in {ts us : List Str} {z : Str} (h : z ∈ ts ∨ z ∈ us) : z ∈ uni ts us := by
  unfold uni
  rw [List.mem_append, List.mem_filter]
  by_cases c : z ∈ ts
  · exact .inl c
  · exact .inr ⟨h.resolve_left c, decide_eq_true c⟩
theorem uni_len (ts us : List Str) : (uni ts us).length ≤ ts.length + us.length := by
  unfold uni
  rw [List.length_append]
  exact Nat.add_le_add_left (List.length_filter_le _ _) _
theorem RuleOk.more {ts us l : List Str} (s : ∀ z ∈ ts, z ∈ us) (h : RuleOk ts l) : RuleOk us l := by
  rcases h with ⟨k, x, h1, h2, rfl⟩ | ⟨k, x, y, h1, h2, h3, h4, rfl⟩
  · exact .inl ⟨k, x, h1, s _ h2, rfl⟩
  · exact .inr ⟨k, x, y, h1, s _ h2, s _ h3, h4, rfl⟩
theorem Rls.more {ts us : List Str} {H : Hp} (s : ∀ z ∈ ts, z ∈ us) : ∀ {as : List Addr} {ls : List (List Str)}, Rls ts H as ls → Rls us H as ls
  | _, _, .nil => .nil
  | _, _, .cons h n r => .cons h (n.more s) (r.more s)
theorem tasks_uni {ts us : List Str} (h : TasksOk ts) (g : TasksOk us) (f : ts.length + us.length ≤ 100) : TasksOk (uni ts us) := by
  refine ⟨fun z => h.ne ?_, fun z hz => ?_, ?_, ?_⟩
  · unfold uni at z
    exact (List.append_eq_nil_iff.mp z).1
  · unfold uni at hz
    rcases List.mem_append.mp hz with q | q
    · exact h.nm z q
    · exact g.nm z (List.mem_filter.mp q).1
  · unfold uni
    refine List.nodup_append.mpr ⟨h.nd, g.nd.filter _, fun a ha b hb e => ?_⟩
    have := (List.mem_filter.mp hb).2
    rw [decide_eq_true_eq] at this
    exact this (e ▸ ha)
  · have := uni_len ts us
    omega
def sp_join (K : PySem.W.Frag) (C : Addr) : Sp := fun vs H Q _ => ∃ (a b : Addr) (ts us : List Str) (ls ms : List (List Str)), vs = [.ref a, .ref b] ∧ BkR K C H a ts ls ∧ BkR K C H b us ms ∧ TasksOk ts ∧ TasksOk us ∧ ts.length + us.length ≤ 100 ∧ ls.length ≤ 400 ∧ ms.length ≤ 400 ∧ PostB C H (uni ts us) (ls ++ ms) Q
theorem ok_Book_and (T : Tx K w mg) : FnOk P w K mg base CX0 5 T.f_Book_and T.d_Book_and ["self", "other"] (sp_join K T.C_Book) := by
  refine T.F_Book_and.ok sc_Book_and (fun vs H Q E h => ?_) (fun cdv A outer s H vs Q E hr h => ?_)
  · obtain ⟨a, b, ts, us, ls, ms, rfl, _⟩ := h
    rfl
  · obtain ⟨a, b, ts, us, ls, ms, rfl, ⟨ax, at1, ar, as, ha, hat, har, rla⟩, ⟨bx, bt, br, bs, hb, hbt, hbr, rlb⟩, oka, okb, few, f1, f2, k⟩ := h
    refine ⟨_,
    (pss_cons
      (ps_setLc (i := 2) (own := [("name", 3)]) (g := gName 3) rfl sc_Book_and.nd rfl rfl (sw_true rfl rfl rfl (by decide +kernel)) (pi_list (pe_prop (pv 1) T.cl_Book T.pr_Book_tasks (ok_Book_tasks T) (hr.mono (by decide)) T.b_Book_tasks .nil pass0 (by rfl))) (blkOk_by (N := ["self", "other", "more", "name"]) (sc := defScope s_Book_and) (own := [("name", 3)]) (by decide +kernel)) (fun _ _ _ _ _ => (pg_name (i := 3) sc_Book_and.nd rfl (.inl rfl))) (fun _ _ _ _ _ => (pts_one (pt_cmpR (r := rIn K true) op_notIn_seq (pv 3) (pe_fldK (K := K) rfl (pv 0) rfl) (by rfl)))) (fun _ _ _ _ _ => (pv 3)))
    (pss_one
      (ps_ret (pe_make T.mk_Book (ok_Book_init T) hr (by rfl) T.mg_Book T.b_Book_init .nil pass0 (pa_cons (pe_op op_cat (pe_fld (pv 0) rfl) (pv 2)) (pa_cons (pe_op op_cat (pe_fld (pv 0) rfl) (pe_prop (pv 1) T.cl_Book T.pr_Book_rules (ok_Book_rules T) (hr.mono (by decide)) T.b_Book_rules .nil pass0 (by rfl))) pa_nil)))))), ?_⟩
    have l1 := rla.len
    have l2 := rlb.len
    refine ⟨_, rfl, b, bx, _, rfl, hb, b, bx, bt, br, bt, _, rfl, hb, fl_t bt br, .of hbt, fun U hU => ?_⟩
    have sU := same_upd (o := .lst (us.map V.str)) hU
    have eU : (upd H U (.lst (us.map V.str))) U = some (.lst (us.map V.str)) := upd_same
    generalize upd H U (.lst (us.map V.str)) = H1 at sU eU
    refine ⟨U, rfl, ⟨_, .of eU⟩, fun D hD => ?_⟩
    refine lc_list (xs := us.map V.str) (fun i H' => H' D = some (.lst (((us.take i).filter fun z => decide (z ∉ ts)).map V.str)) ∧ Same H1 H') ⟨upd_same, same_upd hD⟩ (fun i H' _ h => .of (h.2 _ _ eU)) ?_ ?_
    · rintro i v H2 hi ⟨eD, s2⟩
      have hil := (List.getElem?_eq_some_iff.mp hi).1
      rw [List.length_map] at hil
      rw [List.getElem?_map] at hi
      obtain ⟨z, hz, rfl⟩ := Option.map_eq_some_iff.mp hi
      have s02 := sU.trans s2
      have et : us.take (i + 1) = us.take i ++ [z] := by rw [List.take_add_one, hz]; rfl
      refine ⟨rfl, _, rfl, _, rfl, a, T.C_Book, ax, _, _, rfl, s02 _ _ ha, T.cl_Book, T.n_Book_tasks, fl_t at1 ar, at1, _, rfl, .inl (.of (s02 _ _ hat)), rfl, flat_strs _, _, rfl, ite2 (fun c => ?_) (fun c => ?_)⟩
      · have c1 : (!inV (V.str z) (ts.map V.str)) = true := c
        rw [inV_str] at c1
        have c2 : z ∉ ts := by simpa using c1
        refine ⟨_, rfl, _, eD, ?_, ?_, fun b o e => ?_⟩
        · rw [List.length_map]
          refine small1000 (Nat.le_trans (List.length_filter_le _ _) ?_)
          rw [List.length_take]
          omega
        · rw [upd_same, et, List.filter_append, List.map_append]
          have : List.filter (fun z => decide (z ∉ ts)) [z] = [z] := filter_one (decide_eq_true c2)
          rw [this]
          rfl
        · rw [upd_ne (ne_of_none e hD)]
          exact s2 b o e
      · have c1 : ¬ (!inV (V.str z) (ts.map V.str)) = true := c
        rw [inV_str] at c1
        have c2 : z ∈ ts := by simpa using c1
        refine ⟨?_, s2⟩
        rw [eD, et, List.filter_append]
        have : List.filter (fun z => decide (z ∉ ts)) [z] = [] := filter_zero (by simpa using c2)
        rw [this, List.append_nil]
    · rintro H2 ⟨eD, s2⟩
      rw [List.length_map, List.take_length] at eD
      have s02 := sU.trans s2
      have fl1 := List.length_filter_le (fun z => decide (z ∉ ts)) us
      refine ⟨_, rfl, a, T.C_Book, ax, _, _, rfl, s02 _ _ ha, T.cl_Book, T.n_Book_tasks, fl_t at1 ar, _, rfl, at1, D, _, _, rfl, rfl, s02 _ _ hat, eD, ?_, fun p hp => ?_⟩
      · rw [List.length_map, List.length_map]; exact Nat.le_of_lt (small1000 (by omega))
      have ep : (upd H2 p (.lst (ts.map V.str ++ (us.filter fun z => decide (z ∉ ts)).map V.str))) p = some (.lst ((uni ts us).map V.str)) := by rw [upd_same, ← List.map_append]; rfl
      have sp := same_upd (o := .lst (ts.map V.str ++ (us.filter fun z => decide (z ∉ ts)).map V.str)) hp
      have s3 := s02.trans sp
      generalize upd H2 p (.lst (ts.map V.str ++ (us.filter fun z => decide (z ∉ ts)).map V.str)) = H3 at sp s3 ep
      refine ⟨_, rfl, a, T.C_Book, ax, _, _, rfl, s3 _ _ ha, T.cl_Book, T.n_Book_rules, fl_r at1 ar, _, rfl, b, bx, _, rfl, s3 _ _ hb, b, bx, bt, br, br, _, rfl, s3 _ _ hb, fl_r bt br, .of (s3 _ _ hbr), fun V1 hV => ?_⟩
      have sV := same_upd (o := .lst (bs.map V.ref)) hV
      have s4 := s3.trans sV
      refine ⟨ar, V1, _, _, rfl, rfl, s4 _ _ har, upd_same, ?_, fun p2 hp2 => ?_⟩
      · rw [List.length_map, List.length_map]; exact Nat.le_of_lt (small1000 (by omega))
      have sp2 := same_upd (o := .lst (as.map V.ref ++ bs.map V.ref)) hp2
      have s5 := s4.trans sp2
      exact mkB s5 (sp2 _ _ (sV _ _ ep)) (by rw [upd_same, ← List.map_append]) (((rlb.more fun z h => uni_in (.inr h)).keep (Same.tk s5)).app ((rla.more fun z h => uni_in (.inl h)).keep (Same.tk s5))) (tasks_uni oka okb few) k
/-- the rule read from the last day -/
def ko (k : Str) : Str := if k = "first" then "last" else "first"
def turn : List Str → List Str
  | [k, x] => [ko k, x]
  | [k, x, y] => if k = "same" ∨ k = "apart" then [k, x, y] else [k, y, x]
  | l => l
def dirs : List Str := ["before", "upto", "far", "next"]
theorem ko_two : ∀ k ∈ two, ko k ∈ two := by decide +kernel
theorem dirs_six : ∀ k ∈ six, (k ∈ dirs ∧ ¬ (k = "same" ∨ k = "apart")) ∨ (k ∉ dirs ∧ (k = "same" ∨ k = "apart")) := by decide +kernel
theorem two_dirs : ∀ k ∈ two, k ∉ dirs := by decide +kernel
theorem turn_ok {ts l : List Str} (h : RuleOk ts l) : RuleOk ts (turn l) := by
  rcases h with ⟨k, x, h1, h2, rfl⟩ | ⟨k, x, y, h1, h2, h3, h4, rfl⟩
  · exact .inl ⟨ko k, x, ko_two k h1, h2, rfl⟩
  · by_cases c : k = "same" ∨ k = "apart"
    · exact .inr ⟨k, x, y, h1, h2, h3, h4, if_pos c⟩
    · exact .inr ⟨k, y, x, h1, h3, h2, fun e => h4 e.symm, if_neg c⟩
theorem turn2 {ts l : List Str} (h : RuleOk ts l) : turn (turn l) = l := by
  rcases h with ⟨k, x, h1, h2, rfl⟩ | ⟨k, x, y, h1, h2, h3, h4, rfl⟩
  · have : ∀ k ∈ two, ko (ko k) = k := by decide +kernel
    show [ko (ko k), x] = [k, x]
    rw [this k h1]
  · by_cases c : k = "same" ∨ k = "apart"
    · show turn (if _ then _ else _) = _
      rw [if_pos c]
      exact if_pos c
    · show turn (if _ then _ else _) = _
      rw [if_neg c]
      exact if_neg c
def sp_turn (K : PySem.W.Frag) : Sp := fun vs H Q _ => ∃ (a : Addr) (ts l : List Str), vs = [.ref a] ∧ H a = some (.tup (l.map V.str)) ∧ RuleOk ts l ∧ ∀ u H', Same H H' → H' u = some (.tup ((turn l).map V.str)) → Q (.ref u) H'
theorem ok_turned (T : Tx K w mg) : FnOk P w K mg base CX0 1 T.f_turned T.d_turned ["rule"] (sp_turn K) := by
  refine T.F_turned.ok sc_turned (fun vs H Q E h => ?_) (fun cdv A outer s H vs Q E hr h => ?_)
  · obtain ⟨a, ts, l, rfl, _⟩ := h
    rfl
  · obtain ⟨a, ts, l, rfl, hA0, ok, k⟩ := h
    have hA : SqT K H a (l.map V.str) := .of hA0
    refine ⟨_,
    (pss_cons
      (ps_if (pt_cmpR op_in_seq (pe_ix ix_tup (pv 0) pe_int (fun _ _ => rfl)) (pe_glob (v := .ref T.d__DIRECTED) (by rfl) T.g__DIRECTED rfl) (by rfl))
        (pss_one
          (ps_ret (pe_tup (pa_cons (pe_ix ix_tup (pv 0) pe_int (fun _ _ => rfl)) (pa_cons (pe_ix ix_tup (pv 0) pe_int (fun _ _ => rfl)) (pa_cons (pe_ix ix_tup (pv 0) pe_int (fun _ _ => rfl)) pa_nil))))))
        pss_nil)
    (pss_cons
      (ps_if (pt_cmpR (op_in_kd T.kd__OTHER_END) (pe_ix ix_tup (pv 0) pe_int (fun _ _ => rfl)) (pe_glob (v := .ref T.d__OTHER_END) (by rfl) T.g__OTHER_END rfl) (by rfl))
        (pss_one
          (ps_ret (pe_tup (pa_cons (pe_ix (ix_kd T.kd__OTHER_END) (pe_glob (v := .ref T.d__OTHER_END) (by rfl) T.g__OTHER_END rfl) (pe_ix ix_tup (pv 0) pe_int (fun _ _ => rfl)) (fun _ _ => rfl)) (pa_cons (pe_ix ix_tup (pv 0) pe_int (fun _ _ => rfl)) pa_nil)))))
        pss_nil)
    (pss_one
      (ps_ret (pv 0))))), ?_⟩
    rcases ok with ⟨kd, x, h1, h2, rfl⟩ | ⟨kd, x, y, h1, h2, h3, h4, rfl⟩
    · have n0 : (inV (V.str kd) (dirs.map V.str)) = false := by rw [inV_str]; exact decide_eq_false (two_dirs kd h1)
      obtain ⟨t, hd⟩ : ∃ t, PySem.W.nsIn K T.d__OTHER_END kd = some (some (.str (ko kd) t)) := by
        rcases two_is h1 with rfl | rfl
        · exact T.k__OTHER_END_first
        · exact T.k__OTHER_END_last
      refine ⟨_, rfl, a, _, _, V.str kd, rfl, rfl, hA, atI_nat (j := 0) rfl, T.d__DIRECTED, _, rfl, .inr (T.sq__DIRECTED _), rfl, flat_strs _, _, rfl, iteNB n0 ?_⟩
      refine ⟨_, rfl, a, _, _, V.str kd, rfl, rfl, hA, atI_nat (j := 0) rfl, _, _, rfl, rfl, hd, _, rfl, iteT ?_⟩
      refine ⟨_, rfl, a, _, _, V.str kd, rfl, rfl, hA, atI_nat (j := 0) rfl, _, _, .str (ko kd), rfl, rfl, hd, ⟨_, rfl⟩, _, rfl, a, _, _, V.str x, rfl, rfl, hA, atI_nat (j := 1) rfl, (by show 2 ≤ sizeLine; decide), fun u hu => k u _ (same_upd hu) upd_same⟩
    · rcases dirs_six kd h1 with ⟨c1, c2⟩ | ⟨c1, c2⟩
      · have n0 : (inV (V.str kd) (dirs.map V.str)) = true := by rw [inV_str]; exact decide_eq_true c1
        refine ⟨_, rfl, a, _, _, V.str kd, rfl, rfl, hA, atI_nat (j := 0) rfl, T.d__DIRECTED, _, rfl, .inr (T.sq__DIRECTED _), rfl, flat_strs _, _, rfl, iteB n0 ?_⟩
        refine ⟨_, rfl, a, _, _, V.str kd, rfl, rfl, hA, atI_nat (j := 0) rfl, _, rfl, a, _, _, V.str y, rfl, rfl, hA, atI_nat (j := 2) rfl, _, rfl, a, _, _, V.str x, rfl, rfl, hA, atI_nat (j := 1) rfl, (by show 3 ≤ sizeLine; decide), fun u hu => k u _ (same_upd hu) ?_⟩
        rw [upd_same, show turn [kd, x, y] = [kd, y, x] from if_neg c2]
        rfl
      · have n0 : (inV (V.str kd) (dirs.map V.str)) = false := by rw [inV_str]; exact decide_eq_false c1
        have hn : PySem.W.nsIn K T.d__OTHER_END kd = some none := by
          rcases c2 with rfl | rfl
          · exact T.k__OTHER_END_same
          · exact T.k__OTHER_END_apart
        refine ⟨_, rfl, a, _, _, V.str kd, rfl, rfl, hA, atI_nat (j := 0) rfl, T.d__DIRECTED, _, rfl, .inr (T.sq__DIRECTED _), rfl, flat_strs _, _, rfl, iteNB n0 ?_⟩
        refine ⟨_, rfl, a, _, _, V.str kd, rfl, rfl, hA, atI_nat (j := 0) rfl, _, _, rfl, rfl, hn, _, rfl, iteF ⟨_, rfl, k a H (Same.refl H) ?_⟩⟩
        rw [show turn [kd, x, y] = [kd, x, y] from if_pos c2]
        exact hA0
theorem ok_law_backward (T : Tx K w mg) : FnOk P w K mg base CX0 1 T.f_law_backward T.d_law_backward ["rule"] (sp_turn K) := by
  refine T.F_law_backward.ok sc_law_backward (fun vs H Q E h => ?_) (fun cdv A outer s H vs Q E hr h => ?_)
  · obtain ⟨a, ts, l, rfl, _⟩ := h
    rfl
  · obtain ⟨a, ts, l, rfl, hA0, ok, k⟩ := h
    have hA : SqT K H a (l.map V.str) := .of hA0
    refine ⟨_,
    (pss_cons
      (ps_if (pt_cmpR op_eq (pe_ix ix_tup (pv 0) pe_int (fun _ _ => rfl)) pe_str (nomark _))
        (pss_one
          (ps_ret (pe_tup (pa_cons pe_str (pa_cons (pe_ix ix_tup (pv 0) pe_int (fun _ _ => rfl)) pa_nil)))))
        pss_nil)
    (pss_cons
      (ps_if (pt_cmpR op_eq (pe_ix ix_tup (pv 0) pe_int (fun _ _ => rfl)) pe_str (nomark _))
        (pss_one
          (ps_ret (pe_tup (pa_cons pe_str (pa_cons (pe_ix ix_tup (pv 0) pe_int (fun _ _ => rfl)) pa_nil)))))
        pss_nil)
    (pss_cons
      (ps_if (pt_cmpR op_in_seq (pe_ix ix_tup (pv 0) pe_int (fun _ _ => rfl)) (pe_tup (pa_cons pe_str (pa_cons pe_str pa_nil))) (by rfl))
        (pss_one
          (ps_ret (pv 0)))
        pss_nil)
    (pss_one
      (ps_ret (pe_tup (pa_cons (pe_ix ix_tup (pv 0) pe_int (fun _ _ => rfl)) (pa_cons (pe_ix ix_tup (pv 0) pe_int (fun _ _ => rfl)) (pa_cons (pe_ix ix_tup (pv 0) pe_int (fun _ _ => rfl)) pa_nil))))))))), ?_⟩
    rcases ok with ⟨kd, x, h1, h2, rfl⟩ | ⟨kd, x, y, h1, h2, h3, h4, rfl⟩
    · refine ⟨_, rfl, a, _, _, V.str kd, rfl, rfl, hA, atI_nat (j := 0) rfl, rfl, _, rfl, ite2 (fun c => ?_) (fun c => ?_)⟩
      · have c1 := dS c
        refine ⟨_, rfl, a, _, _, V.str x, rfl, rfl, hA, atI_nat (j := 1) rfl, (by show 2 ≤ sizeLine; decide), fun u hu => k u _ (same_upd hu) ?_⟩
        rw [upd_same, c1]
        rfl
      · have c1 := dSN c
        have c2 : kd = "last" := (two_is h1).resolve_left c1
        refine ⟨_, rfl, a, _, _, V.str kd, rfl, rfl, hA, atI_nat (j := 0) rfl, rfl, _, rfl, iteD (congrArg V.str c2) ⟨_, rfl, a, _, _, V.str x, rfl, rfl, hA, atI_nat (j := 1) rfl, (by show 2 ≤ sizeLine; decide), fun u hu => k u _ (same_upd hu) ?_⟩⟩
        rw [upd_same, c2]
        rfl
    · obtain ⟨n1, n2⟩ := six_not h1
      refine ⟨_, rfl, a, _, _, V.str kd, rfl, rfl, hA, atI_nat (j := 0) rfl, rfl, _, rfl, iteND (fun z => n1 (V.str.inj z)) ⟨_, rfl, a, _, _, V.str kd, rfl, rfl, hA, atI_nat (j := 0) rfl, rfl, _, rfl, iteND (fun z => n2 (V.str.inj z)) ?_⟩⟩
      refine ⟨_, rfl, a, _, _, V.str kd, rfl, rfl, hA, atI_nat (j := 0) rfl, (by show 2 ≤ sizeLine; decide), fun U hU => ?_⟩
      have sU := same_upd (o := .tup [V.str ("same" : Str), V.str ("apart" : Str)]) hU
      have eU : SqT K (upd H U (.tup [V.str ("same" : Str), V.str ("apart" : Str)])) U ([("same" : Str), "apart"].map V.str) := .of upd_same
      have hA1 := Same.tup sU hA
      refine ⟨U, _, rfl, .inr eU, rfl, flat_strs _, _, rfl, ite2 (fun c => ?_) (fun c => ?_)⟩
      · rw [inV_str] at c
        have c2 : kd = "same" ∨ kd = "apart" := by simpa using c
        refine ⟨_, rfl, k a _ sU ?_⟩
        rw [show turn [kd, x, y] = [kd, x, y] from if_pos c2]
        exact sU _ _ hA0
      · rw [inV_str] at c
        have c2 : ¬ (kd = "same" ∨ kd = "apart") := by simpa using c
        refine ⟨_, rfl, a, _, _, V.str kd, rfl, rfl, hA1, atI_nat (j := 0) rfl, _, rfl, a, _, _, V.str y, rfl, rfl, hA1, atI_nat (j := 2) rfl, _, rfl, a, _, _, V.str x, rfl, rfl, hA1, atI_nat (j := 1) rfl, (by show 3 ≤ sizeLine; decide), fun u hu => k u _ (sU.trans (same_upd hu)) ?_⟩
        rw [upd_same, show turn [kd, x, y] = [kd, y, x] from if_neg c2]
        rfl
def sp_tub (K : PySem.W.Frag) (C : Addr) : Sp := fun vs H Q _ => ∃ (b : Addr) (ts : List Str) (ls : List (List Str)), vs = [.ref b] ∧ BkR K C H b ts ls ∧ TasksOk ts ∧ ls.length ≤ 1000 ∧
  ∀ (x dx p q : Addr) (as : List Addr) (H' : Hp), Same H H' → H p = none → H q = none → H' x = some (.ins C dx (fl p q)) → H' p = some (.lst (ts.map V.str)) → H' q = some (.lst (as.map V.ref)) → Rls ts H' as (ls.map turn) → Q (.ref x) H'
theorem ok_Book_turned (T : Tx K w mg) : FnOk P w K mg base CX0 5 T.f_Book_turned T.d_Book_turned ["self"] (sp_tub K T.C_Book) := by
  refine T.F_Book_turned.ok sc_Book_turned (fun vs H Q E h => ?_) (fun cdv A outer s H vs Q E hr h => ?_)
  · obtain ⟨b, ts, ls, rfl, _⟩ := h
    rfl
  · obtain ⟨b, ts, ls, rfl, ⟨bx, t, r, as, hb, ht, hR, rls⟩, ok, few, k⟩ := h
    refine ⟨_,
    (pss_one
      (ps_ret (pe_make T.mk_Book (ok_Book_init T) hr (by rfl) T.mg_Book T.b_Book_init .nil pass0 (pa_cons (pe_fld (pv 0) rfl) (pa_cons (pe_lc (own := [("rule", 1)]) (g := gName 1) rfl sc_Book_turned.nd (pi_list (pe_fld (pv 0) rfl)) (blkOk_by (N := ["self", "rule"]) (sc := defScope s_Book_turned) (own := [("rule", 1)]) (by decide +kernel)) (fun _ _ _ _ _ => (pg_name (i := 1) sc_Book_turned.nd rfl (.inl rfl))) (fun _ _ _ _ _ => pts_nil) (fun _ _ _ _ _ => (pe_call (ok_turned T) (hr.mono (by decide)) (by rfl) T.g_turned T.F_turned.kp T.b_turned .nil pass0 (pa_cons (pv 1) pa_nil)))) pa_nil))))), ?_⟩
    have alen := rls.len
    refine ⟨_, rfl, b, T.C_Book, bx, _, _, rfl, hb, T.cl_Book, T.n_Book_tasks, fl_t t r, _, rfl, b, T.C_Book, bx, _, _, rfl, hb, T.cl_Book, T.n_Book_rules, fl_r t r, r, rfl, ⟨_, .of hR⟩, fun D hD => ?_⟩
    refine lc_list (xs := as.map V.ref) (fun i H' => ∃ bs : List Addr, H' D = some (.lst (bs.map V.ref)) ∧ Rls ts H' bs ((ls.take i).map turn) ∧ bs.length = i ∧ Same H H') ⟨[], upd_same, .nil, rfl, same_upd hD⟩ ?_ ?_ ?_
    · rintro i H' _ ⟨bs, _, _, _, sm⟩
      exact .of (sm _ _ hR)
    · rintro i v H1 hi ⟨bs, eD, rb, bl, sm⟩
      have hil := (List.getElem?_eq_some_iff.mp hi).1
      rw [List.length_map] at hil
      rw [List.getElem?_map] at hi
      obtain ⟨a, ha, rfl⟩ := Option.map_eq_some_iff.mp hi
      obtain ⟨l, hl, ea, rok⟩ := rls.at ha
      refine ⟨rfl, _, rfl, a, ts, l, rfl, sm _ _ ea, rok, fun u H2 s2 eu => ⟨bs.map V.ref, s2 _ _ eD, ?_, bs ++ [u], ?_, ?_, ?_, fun x o e => ?_⟩⟩
      · rw [List.length_map]; exact small1000 (by omega)
      · rw [upd_same, List.map_append]; rfl
      · have e2 : (ls.take (i + 1)).map turn = (ls.take i).map turn ++ [turn l] := by rw [List.take_add_one, hl, List.map_append]; rfl
        rw [e2]
        exact ((rb.keep (Same.tk s2)).snoc eu (turn_ok rok)).keep (tk_mut (s2 _ _ eD))
      · rw [List.length_append, bl]; rfl
      · rw [upd_ne (ne_of_none e hD)]
        exact s2 x o (sm x o e)
    · rintro H1 ⟨bs, eD, rb, bl, sm⟩
      rw [List.length_map, alen, List.take_length] at rb
      have sq : ∀ {H : Hp} {x dx b : Addr} {o : HO}, H x = none → H dx = none → H b = some o → (upd (upd H dx (.own x)) x (.ins T.C_Book dx [])) b = some o := fun hx hdx e => by
        rw [upd_ne (ne_of_none e hx), upd_ne (ne_of_none e hdx)]; exact e
      refine fun x dx hx hdx ne => ⟨x, dx, t, D, ts, bs, rfl, upd_same, .of (sq hx hdx (sm _ _ ht)), .of (sq hx hdx eD), ok, fun u hu => ?_, fun p q H2 fp fq ex ep eq kp => ⟨rfl, ?_⟩⟩
      · obtain ⟨l, e, h⟩ := rb.mem hu
        exact ⟨l, .of (sq hx hdx e), h⟩
      have s2 : Same H1 H2 := Same.made hx hdx kp
      have free : ∀ {p : Addr}, (upd (upd H1 dx (.own x)) x (.ins T.C_Book dx [])) p = none → H1 p = none := fun {p} f => by
        cases h : H1 p with
        | none => rfl
        | some o =>
          rw [sq hx hdx h] at f
          cases f
      exact k x dx p q bs H2 (sm.trans s2) (sm.free (free fp)) (sm.free (free fq)) ex ep eq (rb.keep (Same.tk s2))
/-- the rule told the other way -/
def xk (k : Str) : Str := if k = "before" then "upto" else if k = "upto" then "before" else k
def exch : List Str → List Str
  | [] => []
  | k :: r => xk k :: r
theorem xk_two : ∀ k ∈ two, xk k = k := by decide +kernel
theorem xk_six : ∀ k ∈ six, xk k ∈ six := by decide +kernel
theorem exch_ok {ts l : List Str} (h : RuleOk ts l) : RuleOk ts (exch l) := by
  rcases h with ⟨k, x, h1, h2, rfl⟩ | ⟨k, x, y, h1, h2, h3, h4, rfl⟩
  · exact .inl ⟨k, x, h1, h2, by show [xk k, x] = [k, x]; rw [xk_two k h1]⟩
  · exact .inr ⟨xk k, x, y, xk_six k h1, h2, h3, h4, rfl⟩
theorem RuleOk.head {ts l : List Str} (h : RuleOk ts l) : ∃ k r, l = k :: r ∧ k ∈ two ++ six ∧ 1 ≤ r.length ∧ r.length ≤ 2 := by
  rcases h with ⟨k, x, h1, h2, rfl⟩ | ⟨k, x, y, h1, h2, h3, h4, rfl⟩
  · exact ⟨k, [x], rfl, List.mem_append_left _ h1, Nat.le_refl 1, Nat.le_succ 1⟩
  · exact ⟨k, [x, y], rfl, List.mem_append_right _ h1, Nat.le_succ 1, Nat.le_refl 2⟩
theorem cut_drop1 (xs : List V) : cutV xs (some 1) none = xs.drop 1 := by
  unfold cutV
  rw [HT.sIx_none, show HT.sIx xs.length 0 (some 1) = min 1 xs.length from HT.sIx_nat _ _ 1]
  by_cases h : 1 ≤ xs.length
  · rw [Nat.min_eq_left h]
    exact List.take_of_length_le (by rw [List.length_drop]; exact Nat.le_refl _)
  · have e : xs = [] := List.length_eq_zero_iff.mp (by omega)
    subst e
    rfl
theorem exch_get (T : Tx K w mg) {k : Str} (h : k ∈ two ++ six) : ∃ r, PySem.W.nsIn K T.d__EXCHANGED k = some r ∧ (r = none → V.str (xk k) = V.str k) ∧ ∀ u0, r = some u0 → RelV (V.str (xk k)) u0 := by
  have h8 : k = "first" ∨ k = "last" ∨ k = "before" ∨ k = "upto" ∨ k = "same" ∨ k = "apart" ∨ k = "far" ∨ k = "next" := by
    have : ∀ k ∈ two ++ six, k = "first" ∨ k = "last" ∨ k = "before" ∨ k = "upto" ∨ k = "same" ∨ k = "apart" ∨ k = "far" ∨ k = "next" := by decide +kernel
    exact this k h
  have no : ∀ z : Str, PySem.W.nsIn K T.d__EXCHANGED z = some none → xk z = z → ∃ r, PySem.W.nsIn K T.d__EXCHANGED z = some r ∧ (r = none → V.str (xk z) = V.str z) ∧ ∀ u0, r = some u0 → RelV (V.str (xk z)) u0 := fun z e x => ⟨none, e, fun _ => congrArg V.str x, fun u0 q => by cases q⟩
  have yes : ∀ z y : Str, (∃ t, PySem.W.nsIn K T.d__EXCHANGED z = some (some (.str y t))) → xk z = y → ∃ r, PySem.W.nsIn K T.d__EXCHANGED z = some r ∧ (r = none → V.str (xk z) = V.str z) ∧ ∀ u0, r = some u0 → RelV (V.str (xk z)) u0 := fun z y ⟨t, e⟩ x => ⟨_, e, (fun q => nomatch q), fun u0 q => by
    cases q
    exact ⟨t, by rw [x]⟩⟩
  rcases h8 with rfl | rfl | rfl | rfl | rfl | rfl | rfl | rfl
  · exact no _ T.k__EXCHANGED_first (by decide +kernel)
  · exact no _ T.k__EXCHANGED_last (by decide +kernel)
  · exact yes _ _ T.k__EXCHANGED_before (by decide +kernel)
  · exact yes _ _ T.k__EXCHANGED_upto (by decide +kernel)
  · exact no _ T.k__EXCHANGED_same (by decide +kernel)
  · exact no _ T.k__EXCHANGED_apart (by decide +kernel)
  · exact no _ T.k__EXCHANGED_far (by decide +kernel)
  · exact no _ T.k__EXCHANGED_next (by decide +kernel)
def sp_exch (K : PySem.W.Frag) : Sp := fun vs H Q _ => ∃ (a : Addr) (ts l : List Str), vs = [.ref a] ∧ H a = some (.tup (l.map V.str)) ∧ RuleOk ts l ∧ ∀ u H', Same H H' → H' u = some (.tup ((exch l).map V.str)) → Q (.ref u) H'
theorem ok_exchanged (T : Tx K w mg) : FnOk P w K mg base CX0 1 T.f_exchanged T.d_exchanged ["rule"] (sp_exch K) := by
  refine T.F_exchanged.ok sc_exchanged (fun vs H Q E h => ?_) (fun cdv A outer s H vs Q E hr h => ?_)
  · obtain ⟨a, ts, l, rfl, _⟩ := h
    rfl
  · obtain ⟨a, ts, l, rfl, hA0, ok, k⟩ := h
    have hA : SqT K H a (l.map V.str) := .of hA0
    refine ⟨_,
    (pss_one
      (ps_ret (pe_tup (pa_cons (pe_getKD T.kd__EXCHANGED (pe_glob (v := .ref T.d__EXCHANGED) (by rfl) T.g__EXCHANGED rfl) (pe_ix ix_tup (pv 0) pe_int (fun _ _ => rfl)) (pe_ix ix_tup (pv 0) pe_int (fun _ _ => rfl)) ⟨rfl, rfl, rfl, rfl⟩) (StX.pa_star (pe_slice sl_tup (pv 0) (po_some pe_int) po_none) pa_nil))))), ?_⟩
    obtain ⟨kd, r, rfl, hk, r1, r2⟩ := ok.head
    obtain ⟨o, hn, h0, h1⟩ := exch_get T hk
    refine ⟨rfl, _, rfl, a, _, _, V.str kd, rfl, rfl, hA, atI_nat (j := 0) rfl, _, rfl, a, _, _, V.str kd, rfl, rfl, hA, atI_nat (j := 0) rfl, kd, o, V.str (xk kd), rfl, hn, h0, h1, _, rfl, _, rfl, a, _, rfl, hA, fun z => ?_, fun p hp => ⟨p, _, rfl, .inl (.of upd_same), ?_, fun u hu => ?_⟩⟩
    · have := z.1
      rw [show HT.sIx ((kd :: r).map V.str).length 0 (some 1) = min 1 ((kd :: r).map V.str).length from HT.sIx_nat _ _ 1, List.length_map, List.length_cons] at this
      omega
    · show _ + 1 ≤ sizeLine
      rw [cut_drop1]
      refine Nat.le_of_lt (small1000 ?_)
      show ((r.map V.str) ++ []).length + 1 ≤ 1000
      rw [List.append_nil, List.length_map]
      omega
    · refine k u _ ((same_upd hp).trans (same_upd hu)) ?_
      rw [upd_same, cut_drop1]
      show some (HO.tup (V.str (xk kd) :: (r.map V.str ++ []))) = _
      rw [List.append_nil]
      rfl
def sp_exb (K : PySem.W.Frag) (C : Addr) : Sp := fun vs H Q _ => ∃ (b : Addr) (ts : List Str) (ls : List (List Str)), vs = [.ref b] ∧ BkR K C H b ts ls ∧ TasksOk ts ∧ ls.length ≤ 1000 ∧
  ∀ (x dx p q : Addr) (as : List Addr) (H' : Hp), Same H H' → H p = none → H q = none → H' x = some (.ins C dx (fl p q)) → H' p = some (.lst (ts.map V.str)) → H' q = some (.lst (as.map V.ref)) → Rls ts H' as (ls.map exch) → Q (.ref x) H'
theorem ok_Book_exchanged (T : Tx K w mg) : FnOk P w K mg base CX0 5 T.f_Book_exchanged T.d_Book_exchanged ["self"] (sp_exb K T.C_Book) := by
  refine T.F_Book_exchanged.ok sc_Book_exchanged (fun vs H Q E h => ?_) (fun cdv A outer s H vs Q E hr h => ?_)
  · obtain ⟨b, ts, ls, rfl, _⟩ := h
    rfl
  · obtain ⟨b, ts, ls, rfl, ⟨bx, t, r, as, hb, ht, hR, rls⟩, ok, few, k⟩ := h
    refine ⟨_,
    (pss_one
      (ps_ret (pe_make T.mk_Book (ok_Book_init T) hr (by rfl) T.mg_Book T.b_Book_init .nil pass0 (pa_cons (pe_fld (pv 0) rfl) (pa_cons (pe_lc (own := [("rule", 1)]) (g := gName 1) rfl sc_Book_exchanged.nd (pi_list (pe_fld (pv 0) rfl)) (blkOk_by (N := ["self", "rule"]) (sc := defScope s_Book_exchanged) (own := [("rule", 1)]) (by decide +kernel)) (fun _ _ _ _ _ => (pg_name (i := 1) sc_Book_exchanged.nd rfl (.inl rfl))) (fun _ _ _ _ _ => pts_nil) (fun _ _ _ _ _ => (pe_call (ok_exchanged T) (hr.mono (by decide)) (by rfl) T.g_exchanged T.F_exchanged.kp T.b_exchanged .nil pass0 (pa_cons (pv 1) pa_nil)))) pa_nil))))), ?_⟩
    have alen := rls.len
    refine ⟨_, rfl, b, T.C_Book, bx, _, _, rfl, hb, T.cl_Book, T.n_Book_tasks, fl_t t r, _, rfl, b, T.C_Book, bx, _, _, rfl, hb, T.cl_Book, T.n_Book_rules, fl_r t r, r, rfl, ⟨_, .of hR⟩, fun D hD => ?_⟩
    refine lc_list (xs := as.map V.ref) (fun i H' => ∃ bs : List Addr, H' D = some (.lst (bs.map V.ref)) ∧ Rls ts H' bs ((ls.take i).map exch) ∧ bs.length = i ∧ Same H H') ⟨[], upd_same, .nil, rfl, same_upd hD⟩ ?_ ?_ ?_
    · rintro i H' _ ⟨bs, _, _, _, sm⟩
      exact .of (sm _ _ hR)
    · rintro i v H1 hi ⟨bs, eD, rb, bl, sm⟩
      have hil := (List.getElem?_eq_some_iff.mp hi).1
      rw [List.length_map] at hil
      rw [List.getElem?_map] at hi
      obtain ⟨a, ha, rfl⟩ := Option.map_eq_some_iff.mp hi
      obtain ⟨l, hl, ea, rok⟩ := rls.at ha
      refine ⟨rfl, _, rfl, a, ts, l, rfl, sm _ _ ea, rok, fun u H2 s2 eu => ⟨bs.map V.ref, s2 _ _ eD, ?_, bs ++ [u], ?_, ?_, ?_, fun x o e => ?_⟩⟩
      · rw [List.length_map]; exact small1000 (by omega)
      · rw [upd_same, List.map_append]; rfl
      · have e2 : (ls.take (i + 1)).map exch = (ls.take i).map exch ++ [exch l] := by rw [List.take_add_one, hl, List.map_append]; rfl
        rw [e2]
        exact ((rb.keep (Same.tk s2)).snoc eu (exch_ok rok)).keep (tk_mut (s2 _ _ eD))
      · rw [List.length_append, bl]; rfl
      · rw [upd_ne (ne_of_none e hD)]
        exact s2 x o (sm x o e)
    · rintro H1 ⟨bs, eD, rb, bl, sm⟩
      rw [List.length_map, alen, List.take_length] at rb
      have sq : ∀ {H : Hp} {x dx b : Addr} {o : HO}, H x = none → H dx = none → H b = some o → (upd (upd H dx (.own x)) x (.ins T.C_Book dx [])) b = some o := fun hx hdx e => by
        rw [upd_ne (ne_of_none e hx), upd_ne (ne_of_none e hdx)]; exact e
      refine fun x dx hx hdx ne => ⟨x, dx, t, D, ts, bs, rfl, upd_same, .of (sq hx hdx (sm _ _ ht)), .of (sq hx hdx eD), ok, fun u hu => ?_, fun p q H2 fp fq ex ep eq kp => ⟨rfl, ?_⟩⟩
      · obtain ⟨l, e, h⟩ := rb.mem hu
        exact ⟨l, .of (sq hx hdx e), h⟩
      have s2 : Same H1 H2 := Same.made hx hdx kp
      have free : ∀ {p : Addr}, (upd (upd H1 dx (.own x)) x (.ins T.C_Book dx [])) p = none → H1 p = none := fun {p} f => by
        cases h : H1 p with
        | none => rfl
        | some o =>
          rw [sq hx hdx h] at f
          cases f
      exact k x dx p q bs H2 (sm.trans s2) (sm.free (free fp)) (sm.free (free fq)) ex ep eq (rb.keep (Same.tk s2))
theorem eqvAll_strs : ∀ r s : List Str, PyData.eqvAll (r.map PyData.str) (s.map PyData.str) = decide (r = s)
  | [], [] => by simp [PyData.eqvAll]
  | [], _ :: _ => by simp [PyData.eqvAll]
  | _ :: _, [] => by simp [PyData.eqvAll]
  | x :: r, y :: s => by
    rw [List.map_cons, List.map_cons]
    show (x == y && PyData.eqvAll (r.map PyData.str) (s.map PyData.str)) = decide (x :: r = y :: s)
    rw [eqvAll_strs r s]
    by_cases c : x = y
    · by_cases d : r = s
      · simp [c, d]
      · simp [c, d]
    · simp [c]
theorem eqvAll_rules : ∀ r s : List (List Str), PyData.eqvAll (r.map rdata) (s.map rdata) = decide (r = s)
  | [], [] => by simp [PyData.eqvAll]
  | [], _ :: _ => by simp [PyData.eqvAll]
  | _ :: _, [] => by simp [PyData.eqvAll]
  | x :: r, y :: s => by
    rw [List.map_cons, List.map_cons]
    show (PyData.eqvAll (x.map PyData.str) (y.map PyData.str) && PyData.eqvAll (r.map rdata) (s.map rdata)) = decide (x :: r = y :: s)
    rw [eqvAll_rules r s, eqvAll_strs x y]
    by_cases c : x = y
    · by_cases d : r = s
      · simp [c, d]
      · simp [c, d]
    · simp [c]
theorem eqv_td (ts us : List Str) : PyData.eqv (tdata ts) (tdata us) = decide (ts = us) := eqvAll_strs ts us
theorem eqv_rs (ls ms : List (List Str)) : PyData.eqv (rsdata ls) (rsdata ms) = decide (ls = ms) := eqvAll_rules ls ms
theorem Bk.parts {C : Addr} {H : Hp} {d g b : Addr} {ts : List Str} {ls : List (List Str)} (h : Bk C H d g b ts ls) : ∃ dx t r, H b = some (.ins C dx (fl t r)) ∧ BkR K C H b ts ls := by
  obtain ⟨dx, t, r, h1, h2, as, h3, h4⟩ := h
  exact ⟨dx, t, r, h1, dx, t, r, as, h1, h2.at_, h3.at_, h4⟩
theorem Bk.of {C : Addr} {H : Hp} {d g x dx p q : Addr} {as : List Addr} {ts : List Str} {ls : List (List Str)} {H0 : Hp} (hD : Deck H0 d g) (fp : H0 p = none) (fq : H0 q = none) (ex : H x = some (.ins C dx (fl p q))) (ep : H p = some (.lst (ts.map V.str))) (eq : H q = some (.lst (as.map V.ref))) (rl : Rls ts H as ls) : Bk C H d g x ts ls :=
  ⟨dx, p, q, ex, ⟨ep, (hD.new fp).1, (hD.new fp).2⟩, as, ⟨eq, (hD.new fq).1, (hD.new fq).2⟩, rl⟩
theorem Std.same {H0 H1 H2 : Hp} {d g : Addr} (s : Std H0 H1 d g) (t : Same H1 H2) : Std H0 H2 d g := ⟨s.dk.same t, s.kd.trans (Same.kd t)⟩
theorem map_snoc_ref (us : List Addr) (U : Addr) : (us ++ [U]).map V.ref = us.map V.ref ++ [V.ref U] := by rw [List.map_append]; rfl
theorem cut_d (xs : List Addr) (c : Nat) : cutV (xs.map V.ref) (some (c : Int)) none = (xs.drop c).map V.ref := by rw [cut_drop, List.map_drop]
theorem cut_t (xs : List Addr) (c : Nat) : cutV (xs.map V.ref) none (some (c : Int)) = (xs.take c).map V.ref := by rw [cut_take, List.map_take]
theorem deck_mv {H : Hp} {d g R : Addr} {o : HO} (h : Deck H d g) (n : R ≠ d ∧ R ≠ g) : Deck (upd H R o) d g := by
  obtain ⟨gs, a0, m0, g1, g2, g3⟩ := h
  exact ⟨gs, a0, m0, by rw [upd_ne n.1.symm]; exact g1, by rw [upd_ne n.2.symm]; exact g2, g3⟩
theorem fl_keeps (t r : Addr) : (fl t r).lookup ("keeps" : Str) = none := by
  unfold fl
  rw [lookup_putF, if_neg (by decide +kernel), lookup_putF, if_neg (by decide +kernel)]
  rfl
theorem fl_with (t r : Addr) : (fl t r).lookup ("with_rules" : Str) = none := by
  unfold fl
  rw [lookup_putF, if_neg (by decide +kernel), lookup_putF, if_neg (by decide +kernel)]
  rfl
theorem fl_wout (t r : Addr) : (fl t r).lookup ("without" : Str) = none := by
  unfold fl
  rw [lookup_putF, if_neg (by decide +kernel), lookup_putF, if_neg (by decide +kernel)]
  rfl
/-- all but the deck and R is as it was -/
def Kr (d g R : Addr) (H H' : Hp) : Prop := ∀ b o, H b = some o → b ≠ d → b ≠ g → b ≠ R → H' b = some o
theorem Kd.kr {d g R : Addr} {H H' : Hp} (k : Kd d g H H') : Kr d g R H H' := fun b o e n1 n2 _ => k b o e n1 n2
theorem kr_upd {d g R : Addr} {H : Hp} {o : HO} : Kr d g R H (upd H R o) := fun b u e _ _ n => by rw [upd_ne n]; exact e
theorem Kr.trans {d g R : Addr} {H H1 H2 : Hp} (a : Kr d g R H H1) (b : Kr d g R H1 H2) : Kr d g R H H2 := fun x o h n1 n2 n3 => b x o (a x o h n1 n2 n3) n1 n2 n3
/-! ### errors, two books beside one another -/
theorem ok_PlanError_init (T : Tx K w mg) : FnOk P w K mg base CX0 1 T.f_PlanError_init T.d_PlanError_init ["self", "value"] (sp_einit K) := by
  refine T.F_PlanError_init.ok sc_PlanError_init (fun vs H Q E h => ?_) (fun cdv A outer s H vs Q E hr h => ?_)
  · obtain ⟨a, C, y, rfl, _⟩ := h
    rfl
  · obtain ⟨a, C, y, rfl, ox, nv, ha, k⟩ := h
    refine ⟨_,
    (pss_one
      (ps_ost (pv 0) (pv 1))), ?_⟩
    exact ⟨_, rfl, _, rfl, a, C, rfl, ox, nv, .inl ⟨ha, k⟩⟩
/-- the tasks of us that ts has too -/
def common (ts us : List Str) : List Str := us.filter fun z => decide (z ∈ ts)
theorem common_app (ts a b : List Str) : common ts (a ++ b) = common ts a ++ common ts b := List.filter_append a b
theorem common_in {ts : List Str} {z : Str} (h : z ∈ ts) (r : List Str) : common ts (z :: r) = z :: common ts r := by
  unfold common
  exact List.filter_cons_of_pos (by simpa using h)
theorem common_out {ts : List Str} {z : Str} (h : z ∉ ts) (r : List Str) : common ts (z :: r) = common ts r := by
  unfold common
  exact List.filter_cons_of_neg (by simpa using h)
def sp_beside (K : PySem.W.Frag) (C CE : Addr) : Sp := fun vs H Q E => ∃ (a b : Addr) (ts us : List Str) (ls ms : List (List Str)), vs = [.ref a, .ref b] ∧ BkR K C H a ts ls ∧ BkR K C H b us ms ∧ TasksOk ts ∧ TasksOk us ∧ ts.length + us.length ≤ 100 ∧ ls.length ≤ 400 ∧ ms.length ≤ 400 ∧
  (common ts us = [] → PostB C H (ts ++ us) (ls ++ ms) Q) ∧ (∀ z r, common ts us = z :: r → ∀ d H', H d = none → Same H H' → H' d = some (.xd [(("value" : Str), .str z)]) → E (.ref CE) (some d) H')
theorem uni_none {ts us : List Str} (h : common ts us = []) : uni ts us = ts ++ us := by
  unfold uni
  congr 1
  refine List.filter_eq_self.mpr fun z hz => decide_eq_true fun e => ?_
  have := List.filter_eq_nil_iff.mp h z hz
  exact this (decide_eq_true e)
theorem ok_Book_beside (T : Tx K w mg) : FnOk P w K mg base (L2.CX P w) 6 T.f_Book_beside T.d_Book_beside ["self", "other"] (sp_beside K T.C_Book T.C_DoubleName) := by
  refine T.F_Book_beside.okX sc_Book_beside (fun vs H Q E h => ?_) (fun cdv A outer s H vs Q E hr h => ?_)
  · obtain ⟨a, b, ts, us, ls, ms, rfl, _⟩ := h
    rfl
  · obtain ⟨a, b, ts, us, ls, ms, rfl, bka, bkb, oka, okb, few, f1, f2, k, ke⟩ := h
    refine ⟨_,
    (pss_cons
      (ps_for (passes_of rfl) rfl (pi_list (pe_prop (pv 1) T.cl_Book T.pr_Book_tasks (ok_Book_tasks T) (hr.mono (by decide)) T.b_Book_tasks .nil pass0 (by rfl))) (pg_name (i := 2) sc_Book_beside.nd rfl (.inl rfl))
        (pss_one
          (ps_if (pt_cmpR op_in_seq (pv 2) (pe_fld (pv 0) rfl) (by rfl))
            (pss_one
              (ps_raise rfl (takes_of rfl rfl rfl rfl) (pmk_oex T.ox_DoubleName T.ic_DoubleName T.ti (ok_PlanError_init T) (hr.mono (by decide)) T.b_PlanError_init .nil pass0 (by rfl) T.mg_DoubleName (pa_cons (pv 2) pa_nil))))
            pss_nil)))
    (pss_one
      (ps_ret (pe_op (op_andOwn T.sf_Book T.me_Book_and (ok_Book_and T) hr T.b_Book_and) (pv 0) (pv 1))))), ?_⟩
    obtain ⟨ax, at1, ar, as, ha, hat, har, rla⟩ := id bka
    obtain ⟨bx, bt, br, bs, hb, hbt, hbr, rlb⟩ := id bkb
    refine ⟨_, rfl, b, bx, _, rfl, hb, b, bx, bt, br, bt, _, rfl, hb, fl_t bt br, .of hbt, fun U hU => ?_⟩
    have sU := same_upd (o := .lst (us.map V.str)) hU
    have eU : (upd H U (.lst (us.map V.str))) U = some (.lst (us.map V.str)) := upd_same
    generalize upd H U (.lst (us.map V.str)) = H1 at sU eU
    refine ⟨U, rfl, ⟨_, .of eU⟩, for_list (xs := us.map V.str) (fun m σ H' => H' = H1 ∧ common ts (us.take m) = [] ∧ ∃ x2, σ = [some (.ref a), some (.ref b), x2]) ⟨rfl, rfl, _, rfl⟩ (fun m σ H' _ h => by rw [h.1]; exact .of eU) ?_ ?_⟩
    · rintro m v σ H2 hm ⟨rfl, none', x2, rfl⟩
      rw [List.getElem?_map] at hm
      obtain ⟨z, hz, rfl⟩ := Option.map_eq_some_iff.mp hm
      refine ⟨_, rfl, _, rfl, a, T.C_Book, ax, _, _, rfl, sU _ _ ha, T.cl_Book, T.n_Book_tasks, fl_t at1 ar, at1, _, rfl, .inl (.of (sU _ _ hat)), rfl, flat_strs _, _, rfl, ite2 (fun c => ?_) (fun c => ⟨rfl, ?_, _, rfl⟩)⟩
      · have h1 : inV (V.str z) (ts.map V.str) = true := c
        rw [inV_str] at h1
        have h2 : z ∈ ts := of_decide_eq_true h1
        have e : us = us.take m ++ z :: us.drop (m + 1) := by
          have hl := (List.getElem?_eq_some_iff.mp hz).1
          rw [← (List.getElem?_eq_some_iff.mp hz).2, List.getElem_cons_drop, List.take_append_drop]
        have e2 : common ts us = z :: common ts (us.drop (m + 1)) := by
          have h3 : common ts (us.take m ++ z :: us.drop (m + 1)) = z :: common ts (us.drop (m + 1)) := by
            rw [common_app, none', common_in h2]
            rfl
          rw [← e] at h3
          exact h3
        exact ⟨_, rfl, (by show 1 ≤ 1000; decide), raised (W := E) T.ox_DoubleName T.nv_DoubleName fun d H' hd sm e => ke z _ e2 d H' (sU.free hd) (sU.trans sm) e⟩
      · have h1 : ¬ inV (V.str z) (ts.map V.str) = true := c
        rw [inV_str] at h1
        have h2 : z ∉ ts := by simpa using h1
        rw [List.take_add_one, hz, common_app, none']
        exact common_out h2 []
    · rintro σ H2 ⟨rfl, none', x2, rfl⟩
      rw [List.length_map, List.take_length] at none'
      have k' := k none'
      rw [← uni_none none'] at k'
      refine ⟨_, rfl, _, rfl, a, b, ax, bx, _, _, rfl, rfl, sU _ _ ha, sU _ _ hb, a, b, ts, us, ls, ms, rfl, ⟨ax, at1, ar, as, sU _ _ ha, sU _ _ hat, sU _ _ har, rla.keep (Same.tk sU)⟩, ⟨bx, bt, br, bs, sU _ _ hb, sU _ _ hbt, sU _ _ hbr, rlb.keep (Same.tk sU)⟩, oka, okb, few, f1, f2, fun x dx p q cs H' sm fp fq ex ep eq rl => k' x dx p q cs H' (sU.trans sm) (sU.free fp) (sU.free fq) ex ep eq rl⟩
/-- ("before", a, b) for all a of ts and b of us, in order -/
def prs (ts us : List Str) : List (List Str) := ts.flatMap fun a => us.map fun b => [("before" : Str), a, b]
theorem fl_beside (t r : Addr) : (fl t r).lookup ("beside" : Str) = none := by
  unfold fl
  rw [lookup_putF, if_neg (by decide +kernel), lookup_putF, if_neg (by decide +kernel)]
  rfl
theorem fl_then (t r : Addr) : (fl t r).lookup ("then" : Str) = none := by
  unfold fl
  rw [lookup_putF, if_neg (by decide +kernel), lookup_putF, if_neg (by decide +kernel)]
  rfl
def sp_then (K : PySem.W.Frag) (C CE : Addr) : Sp := fun vs H Q E => ∃ (a b : Addr) (ts us : List Str) (ls ms : List (List Str)), vs = [.ref a, .ref b] ∧ BkR K C H a ts ls ∧ BkR K C H b us ms ∧ TasksOk ts ∧ TasksOk us ∧ ts.length + us.length ≤ 20 ∧ ls.length ≤ 100 ∧ ms.length ≤ 100 ∧
  (common ts us = [] → PostB C H (ts ++ us) ((ls ++ ms) ++ prs ts us) Q) ∧ (∀ z r, common ts us = z :: r → ∀ d H', H d = none → Same H H' → H' d = some (.xd [(("value" : Str), .str z)]) → E (.ref CE) (some d) H')
theorem ok_Book_then (T : Tx K w mg) : FnOk P w K mg base (L2.CX P w) 7 T.f_Book_then T.d_Book_then ["self", "other"] (sp_then K T.C_Book T.C_DoubleName) := by
  refine T.F_Book_then.okX sc_Book_then (fun vs H Q E h => ?_) (fun cdv A outer s H vs Q E hr h => ?_)
  · obtain ⟨a, b, ts, us, ls, ms, rfl, _⟩ := h
    rfl
  · obtain ⟨a, b, ts, us, ls, ms, rfl, bka, bkb, oka, okb, few, f1, f2, k, ke⟩ := h
    refine ⟨_,
    (pss_cons
      (ps_set (i := 2) sc_Book_then.nd rfl (.inl rfl) (pe_meth (pv 0) T.cl_Book T.me_Book_beside (ok_Book_beside T) hr T.b_Book_beside .nil (passE (takes_of rfl rfl rfl rfl)) (pa_cons (pv 1) pa_nil)))
    (pss_one
      (ps_ret (pe_meth (pv 2) T.cl_Book T.me_Book_with_rules (ok_Book_with_rules T) (hr.mono (by decide)) T.b_Book_with_rules .nil pass0 (pa_cons (pe_lc2 (own := [("one", 3), ("two", 4)]) (vs1 := [4]) (g := gName 3) (g1 := gName 4) rfl sc_Book_then.nd (pi_list (pe_fld (pv 0) rfl)) (blkOk_by (N := ["self", "other", "both", "one", "two"]) (sc := defScope s_Book_then) (own := [("one", 3), ("two", 4)]) (by decide +kernel)) (by decide) (fun _ _ _ _ _ => (pg_name (i := 3) sc_Book_then.nd rfl (.inl rfl))) (fun _ _ _ _ _ => pts_nil) (fun _ _ _ _ _ => (pi_listK (K := K) rfl (pe_prop (pv 1) T.cl_Book T.pr_Book_tasks (ok_Book_tasks T) (hr.mono (by decide)) T.b_Book_tasks .nil pass0 (by rfl)))) (fun _ _ _ _ _ => (pg_name (i := 4) sc_Book_then.nd rfl (.inl rfl))) (fun _ _ _ _ _ => pts_nil) (fun _ _ _ _ _ => (pe_tup (pa_cons pe_str (pa_cons (pv 3) (pa_cons (pv 4) pa_nil)))))) pa_nil))))), ?_⟩
    obtain ⟨ax, at1, ar, as, ha, hat, har, rla⟩ := id bka
    obtain ⟨bx, bt, br, bs, hb, hbt, hbr, rlb⟩ := id bkb
    refine ⟨_, rfl, a, ax, _, rfl, ha, fl_beside at1 ar, _, rfl, a, b, ts, us, ls, ms, rfl, bka, bkb, oka, okb, by omega, by omega, by omega, fun nc x dx p q cs H1 s1 fp fq ex ep eq rl => ?_, ke⟩
    refine ⟨_, rfl, x, dx, _, rfl, ex, fl_with p q, ?_⟩
    have okj : TasksOk (ts ++ us) := by
      rw [← uni_none nc]
      exact tasks_uni oka okb (by omega)
    have apart : ∀ y ∈ ts, ∀ z ∈ us, y ≠ z := fun y hy z hz e => by
      have := List.filter_eq_nil_iff.mp nc z hz
      exact this (decide_eq_true (e ▸ hy))
    refine ⟨_, rfl, a, T.C_Book, ax, _, _, rfl, s1 _ _ ha, T.cl_Book, T.n_Book_tasks, fl_t at1 ar, at1, rfl, ⟨_, .of (s1 _ _ hat)⟩, fun D hD => ?_⟩
    refine over_list (ys := ts.map V.str) (fun n G => ∃ es : List Addr, G D = some (.lst (es.map V.ref)) ∧ Rls (ts ++ us) G es (prs (ts.take n) us) ∧ es.length = n * us.length ∧ Same H1 G) ⟨[], upd_same, .nil, by simp, same_upd hD⟩ ?_ ?_ ?_
    · rintro n G _ ⟨es, _, _, _, sm⟩
      exact .of (sm _ _ (s1 _ _ hat))
    · rintro n y G hn ⟨es, eD, re, el, sm⟩
      rw [List.getElem?_map] at hn
      obtain ⟨y, hy, rfl⟩ := Option.map_eq_some_iff.mp hn
      have ny := (List.getElem?_eq_some_iff.mp hy).1
      have ym := List.mem_of_getElem? hy
      have s2 := s1.trans sm
      refine ⟨rfl, _, rfl, b, bx, _, rfl, s2 _ _ hb, b, bx, bt, br, bt, _, rfl, s2 _ _ hb, fl_t bt br, .of (s2 _ _ hbt), fun U hU => ⟨U, rfl, ⟨_, .of upd_same⟩, ?_⟩⟩
      have sU := same_upd (o := .lst (us.map V.str)) hU
      have eU := upd_same (H := G) (a := U) (o := .lst (us.map V.str))
      generalize upd G U (.lst (us.map V.str)) = G1 at *
      have UD : U ≠ D := (ne_of_none eD hU).symm
      refine over_list (ys := us.map V.str) (fun m G' => ∃ es : List Addr, G' D = some (.lst (es.map V.ref)) ∧ Rls (ts ++ us) G' es (prs (ts.take n) us ++ (us.take m).map fun z => [("before" : Str), y, z]) ∧ es.length = n * us.length + m ∧ Same H1 G' ∧ G' U = some (.lst (us.map V.str))) ⟨es, sU _ _ eD, ?_, el, sm.trans sU, eU⟩ ?_ ?_ ?_
      · rw [List.take_zero, List.map_nil, List.append_nil]
        exact re.keep (Same.tk sU)
      · rintro m G' _ ⟨_, _, _, _, _, e⟩
        exact .of e
      · rintro m z G' hm ⟨es, eD, re, el, sm, eU⟩
        rw [List.getElem?_map] at hm
        obtain ⟨z, hz, rfl⟩ := Option.map_eq_some_iff.mp hm
        have mz := (List.getElem?_eq_some_iff.mp hz).1
        have zm := List.mem_of_getElem? hz
        have cnt : n * us.length + m < 400 := by
          have h1 : n * us.length + us.length ≤ ts.length * us.length := by
            have := Nat.mul_le_mul_right us.length (show n + 1 ≤ ts.length from ny)
            rw [Nat.add_mul] at this
            omega
          have h2 : ts.length * us.length ≤ 20 * 20 := Nat.mul_le_mul (by omega) (by omega)
          omega
        refine ⟨rfl, _, rfl, _, rfl, (by show 3 ≤ sizeLine; decide), fun u hu => ⟨es.map V.ref, ?_, ?_, es ++ [u], ?_, ?_, ?_, ?_, ?_⟩⟩
        · exact same_upd hu _ _ eD
        · rw [List.length_map]; exact small1000 (by omega)
        · rw [upd_same, map_snoc_ref]
        · rw [List.take_add_one, hz, List.map_append, ← List.append_assoc]
          exact ((re.keep (Same.tk (same_upd hu))).snoc (l := [("before" : Str), y, z]) upd_same (.inr ⟨_, y, z, by decide +kernel, List.mem_append_left _ ym, List.mem_append_right _ zm, apart y ym z zm, rfl⟩)).keep (tk_mut (same_upd hu _ _ eD))
        · rw [List.length_append, el]; rfl
        · intro c o e
          rw [upd_ne (ne_of_none e hD)]
          exact same_upd hu _ _ (sm _ _ e)
        · rw [upd_ne UD]
          exact same_upd hu _ _ eU
      · rintro G' ⟨es, eD, re, el, sm, eU⟩
        rw [List.length_map, List.take_length] at re
        rw [List.length_map] at el
        refine ⟨es, eD, ?_, by rw [el, Nat.add_mul, Nat.one_mul], sm⟩
        rw [List.take_add_one, hy]
        unfold prs
        rw [List.flatMap_append]
        simpa [prs] using re
    · rintro H2 ⟨es, eD, re, el, s2⟩
      rw [List.length_map, List.take_length] at re
      have few2 : (prs ts us).length ≤ 400 := by
        have h2 : ts.length * us.length ≤ 20 * 20 := Nat.mul_le_mul (by omega) (by omega)
        rw [← re.len, el, List.length_map]
        exact h2
      exact ⟨x, D, ts ++ us, ls ++ ms, prs ts us, es, rfl, ⟨dx, p, q, cs, s2 _ _ ex, s2 _ _ ep, s2 _ _ eq, rl.keep (Same.tk s2)⟩, eD, re, okj, by rw [List.length_append]; omega, few2, fun x' dx' p' q' cs' H' sm fp' fq' ex' ep' eq' rl' => k nc x' dx' p' q' cs' H' ((s1.trans s2).trans sm) (s1.free (s2.free fp')) (s1.free (s2.free fq')) ex' ep' eq' rl'⟩
theorem uni_assoc (a b c : List Str) : uni (uni a b) c = uni a (uni b c) := by
  unfold uni
  rw [List.append_assoc, List.filter_append, List.filter_filter]
  congr 2
  refine List.filter_congr fun z _ => ?_
  rw [Bool.eq_iff_iff, Bool.and_eq_true, decide_eq_true_eq, decide_eq_true_eq, decide_eq_true_eq, List.mem_append, List.mem_filter, decide_eq_true_eq]
  constructor
  · intro h
    exact ⟨fun q => h (.inl q), fun q => h (by
      by_cases e : z ∈ a
      · exact .inl e
      · exact .inr ⟨q, e⟩)⟩
  · rintro ⟨h1, h2⟩ (q | q)
    · exact h1 q
    · exact h2 q.1
theorem look_map {f : Str → Int} {z : Str} : ∀ {ts : List Str}, z ∈ ts → look ts (ts.map f) z = f z
  | [], h => absurd h List.not_mem_nil
  | t :: ts, h => by
    show (if t = z then f t else look ts (ts.map f) z) = f z
    by_cases e : t = z
    · rw [if_pos e, e]
    · rw [if_neg e]
      refine look_map ?_
      rcases List.mem_cons.mp h with x | x
      · exact absurd x.symm e
      · exact x
theorem look_mem {z : Str} : ∀ {ts : List Str} {ds : List Int}, ts.length = ds.length → z ∈ ts → look ts ds z ∈ ds
  | [], _, _, h => absurd h List.not_mem_nil
  | _ :: _, [], h, _ => by cases h
  | t :: ts, d :: ds, hl, h => by
    show (if t = z then d else look ts ds z) ∈ d :: ds
    by_cases e : t = z
    · rw [if_pos e]; exact List.mem_cons_self
    · rw [if_neg e]
      refine List.mem_cons_of_mem _ (look_mem (Nat.succ.inj hl) ?_)
      rcases List.mem_cons.mp h with x | x
      · exact absurd x.symm e
      · exact x
theorem kept_congr {ts l : List Str} {n : Int} {f g : Str → Int} (ok : RuleOk ts l) (h : ∀ z ∈ ts, f z = g z) : keptB l n f = keptB l n g := by
  rcases ok with ⟨k, x, h1, h2, rfl⟩ | ⟨k, x, y, h1, h2, h3, h4, rfl⟩
  · have e : f (List.getD [k, x] 1 "") = g (List.getD [k, x] 1 "") := h x h2
    rcases two_is h1 with rfl | rfl
    · show decide (f x = 1) = decide (g x = 1)
      rw [h x h2]
    · show decide (f x = n) = decide (g x = n)
      rw [h x h2]
  · have e1 : f ([k, x, y].getD 1 "") = g ([k, x, y].getD 1 "") := h x h2
    have e2 : f ([k, x, y].getD 2 "") = g ([k, x, y].getD 2 "") := h y h3
    unfold keptB
    rw [e1, e2]
theorem plan_all {ts : List Str} {ls : List (List Str)} {n : Int} {ds : List Int} (hl : ds.length = ts.length) (hd : ∀ x ∈ ds, 1 ≤ x ∧ x ≤ n) : planB ts ls n ds = ls.all fun l => keptB l n (look ts ds) := by
  unfold planB
  rw [decide_eq_true hl, List.all_eq_true.mpr (fun x hx => by rw [decide_eq_true (hd x hx).1, decide_eq_true (hd x hx).2]; rfl), Bool.true_and, Bool.true_and]
theorem all_congr {p q : List Str → Bool} : ∀ {ls : List (List Str)}, (∀ l ∈ ls, p l = q l) → ls.all p = ls.all q
  | [], _ => rfl
  | l :: r, h => by
    rw [List.all_cons, List.all_cons, h l List.mem_cons_self, all_congr fun x hx => h x (List.mem_cons_of_mem _ hx)]
theorem plan_own {ts : List Str} {ls : List (List Str)} {n : Int} {f : Str → Int} (ok : ∀ l ∈ ls, RuleOk ts l) (h : ∀ z ∈ ts, 1 ≤ f z ∧ f z ≤ n) : planB ts ls n (ts.map f) = ls.all fun l => keptB l n f := by
  rw [plan_all (by rw [List.length_map]) (fun x hx => by
    obtain ⟨z, hz, rfl⟩ := List.mem_map.mp hx
    exact h z hz)]
  exact all_congr fun l hl => kept_congr (ok l hl) fun z hz => look_map hz
/-- the plans of two books joined -/
theorem plan_join {ts us : List Str} {ls ms : List (List Str)} {n : Int} {ds : List Int} (hl : ds.length = (uni ts us).length) (hd : ∀ x ∈ ds, 1 ≤ x ∧ x ≤ n) (o1 : ∀ l ∈ ls, RuleOk ts l) (o2 : ∀ l ∈ ms, RuleOk us l) :
    planB (uni ts us) (ls ++ ms) n ds = (planB ts ls n (ts.map (look (uni ts us) ds)) && planB us ms n (us.map (look (uni ts us) ds))) := by
  rw [plan_all hl hd, List.all_append, plan_own o1 fun z hz => hd _ (look_mem hl.symm (uni_in (.inl hz))), plan_own o2 fun z hz => hd _ (look_mem hl.symm (uni_in (.inr hz)))]
/-! ### plans of two books beside one another -/
theorem look_left {us : List Str} {z : Str} : ∀ {ts : List Str} {ds : List Int}, ts.length ≤ ds.length → z ∈ ts → look (ts ++ us) ds z = look ts (ds.take ts.length) z
  | [], _, _, h => absurd h List.not_mem_nil
  | _ :: _, [], h, _ => by simp at h
  | t :: ts, d :: ds, h, hz => by
    show (if t = z then d else look (ts ++ us) ds z) = (if t = z then d else look ts (ds.take ts.length) z)
    by_cases c : t = z
    · rw [if_pos c, if_pos c]
    · rw [if_neg c, if_neg c]
      exact look_left (Nat.le_of_succ_le_succ h) ((List.mem_cons.mp hz).resolve_left fun e => c e.symm)
theorem look_right {us : List Str} {z : Str} : ∀ {ts : List Str} {ds : List Int}, ts.length ≤ ds.length → z ∉ ts → look (ts ++ us) ds z = look us (ds.drop ts.length) z
  | [], _, _, _ => rfl
  | _ :: _, [], h, _ => by simp at h
  | t :: ts, d :: ds, h, hz => by
    show (if t = z then d else look (ts ++ us) ds z) = look us (ds.drop ts.length) z
    rw [if_neg fun e => hz (by rw [e]; exact List.mem_cons_self)]
    exact look_right (Nat.le_of_succ_le_succ h) fun m => hz (List.mem_cons_of_mem _ m)
theorem look_onto {x : Int} : ∀ {ts : List Str} {ds : List Int}, ts.length = ds.length → ts.Nodup → x ∈ ds → ∃ z ∈ ts, look ts ds z = x
  | _, [], _, _, h => absurd h List.not_mem_nil
  | [], _ :: _, h, _, _ => by simp at h
  | t :: ts, d :: ds, h, nd, hx => by
    rcases List.mem_cons.mp hx with e | m
    · exact ⟨t, List.mem_cons_self, by rw [e]; exact if_pos rfl⟩
    · obtain ⟨n1, n2⟩ := List.nodup_cons.mp nd
      obtain ⟨z, hz, e⟩ := look_onto (Nat.succ.inj h) n2 m
      refine ⟨z, List.mem_cons_of_mem _ hz, ?_⟩
      show (if t = z then d else look ts ds z) = x
      rw [if_neg (fun q : t = z => n1 (by rw [q]; exact hz)), e]
theorem plan_two {ts us : List Str} {ls ms : List (List Str)} {n : Int} {ds : List Int} (hl : ds.length = ts.length + us.length) (nc : ∀ y ∈ ts, ∀ z ∈ us, y ≠ z) (o1 : ∀ l ∈ ls, RuleOk ts l) (o2 : ∀ l ∈ ms, RuleOk us l) :
    planB (ts ++ us) (ls ++ ms) n ds = (planB ts ls n (ds.take ts.length) && planB us ms n (ds.drop ts.length)) := by
  have e1 : (ls.all fun l => keptB l n (look (ts ++ us) ds)) = ls.all fun l => keptB l n (look ts (ds.take ts.length)) := all_congr fun l h => kept_congr (o1 l h) fun z hz => look_left (by omega) hz
  have e2 : (ms.all fun l => keptB l n (look (ts ++ us) ds)) = ms.all fun l => keptB l n (look us (ds.drop ts.length)) := all_congr fun l h => kept_congr (o2 l h) fun z hz => look_right (by omega) fun m => nc z m z hz rfl
  have e3 : (ds.all fun d => decide (1 ≤ d) && decide (d ≤ n)) = (((ds.take ts.length).all fun d => decide (1 ≤ d) && decide (d ≤ n)) && (ds.drop ts.length).all fun d => decide (1 ≤ d) && decide (d ≤ n)) := by
    rw [← List.all_append, List.take_append_drop]
  unfold planB
  rw [List.all_append, e1, e2, e3, decide_eq_true (show ds.length = (ts ++ us).length by rw [List.length_append]; exact hl), decide_eq_true (show (ds.take ts.length).length = ts.length by rw [List.length_take]; omega), decide_eq_true (show (ds.drop ts.length).length = us.length by rw [List.length_drop]; omega)]
  generalize ((ds.take ts.length).all fun d => decide (1 ≤ d) && decide (d ≤ n)) = A
  generalize ((ds.drop ts.length).all fun d => decide (1 ≤ d) && decide (d ≤ n)) = B
  generalize (ls.all fun l => keptB l n (look ts (ds.take ts.length))) = L
  generalize (ms.all fun l => keptB l n (look us (ds.drop ts.length))) = M
  cases A <;> cases B <;> cases L <;> cases M <;> rfl
theorem plan_more {ts : List Str} {ls ms : List (List Str)} {n : Int} {ds : List Int} : planB ts (ls ++ ms) n ds = (planB ts ls n ds && ms.all fun l => keptB l n (look ts ds)) := by
  unfold planB
  rw [List.all_append, ← Bool.and_assoc]
theorem all_prs {ts us : List Str} {n : Int} {f : Str → Int} : ((prs ts us).all fun l => keptB l n f) = true ↔ ∀ y ∈ ts, ∀ z ∈ us, f y < f z := by
  rw [List.all_eq_true]
  constructor
  · intro h y hy z hz
    have h1 : keptB [("before" : Str), y, z] n f = true := h _ (List.mem_flatMap.mpr ⟨y, hy, List.mem_map_of_mem hz⟩)
    have h2 : decide (0 < f z - f y) = true := h1
    have := of_decide_eq_true h2
    omega
  · intro h l hl
    obtain ⟨y, hy, hl⟩ := List.mem_flatMap.mp hl
    obtain ⟨z, hz, rfl⟩ := List.mem_map.mp hl
    have := h y hy z hz
    show decide (0 < f z - f y) = true
    exact decide_eq_true (by omega)
theorem plan_then {ts us : List Str} {ls ms : List (List Str)} {n m1 m2 : Int} {ds : List Int} (hl : ds.length = ts.length + us.length) (nc : ∀ y ∈ ts, ∀ z ∈ us, y ≠ z) (o1 : ∀ l ∈ ls, RuleOk ts l) (o2 : ∀ l ∈ ms, RuleOk us l) (n1 : ts.Nodup) (n2 : us.Nodup)
    (i1 : m1 ∈ ds.take ts.length) (x1 : ∀ y ∈ ds.take ts.length, y ≤ m1) (i2 : m2 ∈ ds.drop ts.length) (x2 : ∀ y ∈ ds.drop ts.length, m2 ≤ y) :
    planB (ts ++ us) ((ls ++ ms) ++ prs ts us) n ds = ((planB ts ls n (ds.take ts.length) && planB us ms n (ds.drop ts.length)) && decide (m1 < m2)) := by
  rw [plan_more, plan_two hl nc o1 o2]
  congr 1
  have l1 : ts.length = (ds.take ts.length).length := by rw [List.length_take]; omega
  have l2 : us.length = (ds.drop ts.length).length := by rw [List.length_drop]; omega
  rw [Bool.eq_iff_iff, all_prs, decide_eq_true_iff]
  constructor
  · intro h
    obtain ⟨y, hy, ey⟩ := look_onto l1 n1 i1
    obtain ⟨z, hz, ez⟩ := look_onto l2 n2 i2
    have := h y hy z hz
    rw [look_left (by omega) hy, look_right (by omega) fun m => nc z m z hz rfl, ey, ez] at this
    exact this
  · intro h y hy z hz
    rw [look_left (by omega) hy, look_right (by omega) fun m => nc z m z hz rfl]
    have a1 := x1 _ (look_mem l1 hy)
    have a2 := x2 _ (look_mem l2 hz)
    omega
theorem look_flip {n : Int} {z : Str} : ∀ {ts : List Str} {ds : List Int}, ts.length = ds.length → z ∈ ts → look ts (ds.map fun d => n + 1 - d) z = n + 1 - look ts ds z
  | [], _, _, h => absurd h List.not_mem_nil
  | _ :: _, [], h, _ => by cases h
  | t :: ts, d :: ds, hl, h => by
    show (if t = z then n + 1 - d else look ts (ds.map fun d => n + 1 - d) z) = n + 1 - (if t = z then d else look ts ds z)
    by_cases e : t = z
    · rw [if_pos e, if_pos e]
    · rw [if_neg e, if_neg e]
      refine look_flip (Nat.succ.inj hl) ?_
      rcases List.mem_cons.mp h with x | x
      · exact absurd x.symm e
      · exact x
theorem kept_turn {ts l : List Str} {n : Int} {f g : Str → Int} (ok : RuleOk ts l) (hg : ∀ z ∈ ts, g z = n + 1 - f z) : keptB (turn l) n g = keptB l n f := by
  rcases ok with ⟨k, x, h1, h2, rfl⟩ | ⟨k, x, y, h1, h2, h3, h4, rfl⟩
  · have e := hg x h2
    rcases two_is h1 with rfl | rfl
    · show decide (g x = n) = decide (f x = 1)
      exact decide_eq_decide.mpr (by omega)
    · show decide (g x = 1) = decide (f x = n)
      exact decide_eq_decide.mpr (by omega)
  · have e := hg x h2
    have e2 := hg y h3
    have h6 : k = "before" ∨ k = "upto" ∨ k = "same" ∨ k = "apart" ∨ k = "far" ∨ k = "next" := by simpa [six] using h1
    rcases h6 with rfl | rfl | rfl | rfl | rfl | rfl
    · show decide (0 < g x - g y) = decide (0 < f y - f x)
      exact decide_eq_decide.mpr (by omega)
    · show decide (0 ≤ g x - g y) = decide (0 ≤ f y - f x)
      exact decide_eq_decide.mpr (by omega)
    · show decide (g y - g x = 0) = decide (f y - f x = 0)
      exact decide_eq_decide.mpr (by omega)
    · show (!decide (g y - g x = 0)) = !decide (f y - f x = 0)
      exact congrArg Bool.not (decide_eq_decide.mpr (by omega))
    · show decide (2 ≤ g x - g y) = decide (2 ≤ f y - f x)
      exact decide_eq_decide.mpr (by omega)
    · show decide (g x - g y = 1) = decide (f y - f x = 1)
      exact decide_eq_decide.mpr (by omega)
theorem plan_turn {ts : List Str} {ls : List (List Str)} {n : Int} {ds : List Int} (ok : ∀ l ∈ ls, RuleOk ts l) : planB ts (ls.map turn) n (ds.map fun d => n + 1 - d) = planB ts ls n ds := by
  unfold planB
  rw [List.length_map]
  by_cases h : ds.length = ts.length
  · have a1 : ((ds.map fun d => n + 1 - d).all fun d => decide (1 ≤ d) && decide (d ≤ n)) = ds.all fun d => decide (1 ≤ d) && decide (d ≤ n) := by
      rw [Bool.eq_iff_iff, List.all_eq_true, List.all_eq_true]
      constructor
      · intro q d hd
        have := q (n + 1 - d) (List.mem_map_of_mem hd)
        rw [Bool.and_eq_true, decide_eq_true_eq, decide_eq_true_eq] at this ⊢
        omega
      · intro q d hd
        obtain ⟨d0, h0, rfl⟩ := List.mem_map.mp hd
        have := q d0 h0
        rw [Bool.and_eq_true, decide_eq_true_eq, decide_eq_true_eq] at this ⊢
        omega
    have kt : ∀ l ∈ ls, keptB (turn l) n (look ts (ds.map fun d => n + 1 - d)) = keptB l n (look ts ds) := fun l hl => kept_turn (ok l hl) fun z hz => look_flip h.symm hz
    have a2 : ((ls.map turn).all fun l => keptB l n (look ts (ds.map fun d => n + 1 - d))) = ls.all fun l => keptB l n (look ts ds) := by
      rw [Bool.eq_iff_iff, List.all_eq_true, List.all_eq_true]
      constructor
      · intro q l hl
        rw [← kt l hl]
        exact q _ (List.mem_map_of_mem hl)
      · intro q l hl
        obtain ⟨l0, h0, rfl⟩ := List.mem_map.mp hl
        rw [kt l0 h0]
        exact q _ h0
    rw [a1, a2]
  · rw [decide_eq_false h, Bool.false_and, Bool.false_and, Bool.false_and, Bool.false_and]
theorem turn2s {ts : List Str} : ∀ {ls : List (List Str)}, (∀ l ∈ ls, RuleOk ts l) → (ls.map turn).map turn = ls
  | [], _ => rfl
  | l :: r, h => by
    show turn (turn l) :: (r.map turn).map turn = l :: r
    rw [turn2 (h l List.mem_cons_self), turn2s fun l hl => h l (List.mem_cons_of_mem _ hl)]
theorem exch_turn {ts l : List Str} (h : RuleOk ts l) : exch (turn l) = turn (exch l) := by
  rcases h with ⟨k, x, h1, h2, rfl⟩ | ⟨k, x, y, h1, h2, h3, h4, rfl⟩
  · rcases two_is h1 with rfl | rfl
    · rfl
    · rfl
  · have h6 : k = "before" ∨ k = "upto" ∨ k = "same" ∨ k = "apart" ∨ k = "far" ∨ k = "next" := by simpa [six] using h1
    rcases h6 with rfl | rfl | rfl | rfl | rfl | rfl <;> rfl
theorem exch_turns {ts : List Str} {ls : List (List Str)} (h : ∀ l ∈ ls, RuleOk ts l) : (ls.map turn).map exch = (ls.map exch).map turn := by
  rw [List.map_map, List.map_map]
  exact List.map_congr_left fun l hl => exch_turn (h l hl)
theorem fl_turn (t r : Addr) : (fl t r).lookup ("turned" : Str) = none := by
  unfold fl
  rw [lookup_putF, if_neg (by decide +kernel), lookup_putF, if_neg (by decide +kernel)]
  rfl
theorem fl_exch (t r : Addr) : (fl t r).lookup ("exchanged" : Str) = none := by
  unfold fl
  rw [lookup_putF, if_neg (by decide +kernel), lookup_putF, if_neg (by decide +kernel)]
  rfl
theorem fl_inj {t r t' r' : Addr} (h : fl t r = fl t' r') : t = t' ∧ r = r' := by
  have h1 := fl_t t r
  have h2 := fl_r t r
  rw [h, fl_t] at h1
  rw [h, fl_r] at h2
  exact ⟨(V.ref.inj (Option.some.inj h1)).symm, (V.ref.inj (Option.some.inj h2)).symm⟩
/-- the tasks and rules of a book that stands -/
theorem Bk.parts_at {C : Addr} {H : Hp} {d g b dx t r : Addr} {ts : List Str} {ls : List (List Str)} (h : Bk C H d g b ts ls) (e : H b = some (.ins C dx (fl t r))) : True ∧ H t = some (.lst (ts.map V.str)) ∧ Lat H d g t (ts.map V.str) := by
  obtain ⟨dx', t', r', h1, h2, _⟩ := h
  rw [e] at h1
  have h3 := Option.some.inj h1
  injection h3 with _ _ h4
  obtain ⟨rfl, rfl⟩ := fl_inj h4
  exact ⟨trivial, h2.at_, h2⟩
theorem prs_len (us : List Str) : ∀ ts : List Str, (prs ts us).length = ts.length * us.length
  | [] => by simp [prs]
  | t :: r => by
    have ih := prs_len us r
    unfold prs at ih ⊢
    rw [List.flatMap_cons, List.length_append, List.length_map, ih, List.length_cons, Nat.add_mul]
    omega
theorem apart_of {ts us : List Str} (nc : common ts us = []) : ∀ y ∈ ts, ∀ z ∈ us, y ≠ z := fun y hy z hz e => by
  have := List.filter_eq_nil_iff.mp nc z hz
  exact this (decide_eq_true (e ▸ hy))
theorem prod100 : ∀ a, a < 21 → ∀ b, b < 21 → a + b ≤ 20 → a * b ≤ 100 := by decide +kernel
theorem prs_ok {ts us : List Str} (nc : ∀ y ∈ ts, ∀ z ∈ us, y ≠ z) : ∀ l ∈ prs ts us, RuleOk (ts ++ us) l := fun l hl => by
  obtain ⟨y, hy, hl⟩ := List.mem_flatMap.mp hl
  obtain ⟨z, hz, rfl⟩ := List.mem_map.mp hl
  exact .inr ⟨_, y, z, by decide +kernel, List.mem_append_left _ hy, List.mem_append_right _ hz, nc y hy z hz, rfl⟩
theorem Bk.rules_at {C : Addr} {H : Hp} {d g b dx t r : Addr} {ts : List Str} {ls : List (List Str)} (h : Bk C H d g b ts ls) (e : H b = some (.ins C dx (fl t r))) : ∃ as : List Addr, Lat H d g r (as.map V.ref) ∧ as.length = ls.length := by
  obtain ⟨dx', t', r', h1, _, as, h3, h4⟩ := h
  rw [e] at h1
  have h3' := Option.some.inj h1
  injection h3' with _ _ h5
  obtain ⟨rfl, rfl⟩ := fl_inj h5
  exact ⟨as, h3, h4.len⟩
def sp_equal (K : PySem.W.Frag) (C : Addr) : Sp := fun vs H Q _ => ∃ (a b : Addr) (ts : List Str) (ls : List (List Str)), vs = [.ref a, .ref b] ∧ BkR K C H a ts ls ∧ BkR K C H b ts ls ∧ TasksOk ts ∧ Q (.bl true) H
theorem ok_law_equal (T : Tx K w mg) : FnOk P w K mg base CX0 3 T.f_law_equal T.d_law_equal ["one", "two"] (sp_equal K T.C_Book) := by
  refine T.F_law_equal.ok sc_law_equal (fun vs H Q E h => ?_) (fun cdv A outer s H vs Q E hr h => ?_)
  · obtain ⟨a, b, ts, ls, rfl, _⟩ := h
    rfl
  · obtain ⟨a, b, ts, ls, rfl, bka, bkb, ok, k⟩ := h
    refine ⟨_,
    (pss_one
      (ps_ret (pe_and (pe_cmpR op_isBl (pe_cmpR (op_eqAny T.cm_Book T.me_Book_eq (ok_Book_eq T) (hr.mono (by decide)) T.b_Book_eq) (pv 0) (pv 1) (nomark _)) pe_bl (nomark _)) (pe_one (pe_cmpR op_isBl (pe_cmpR (op_neAny T.cm_Book T.me_Book_eq (ok_Book_eq T) hr T.b_Book_eq) (pv 0) (pv 1) (nomark _)) pe_bl (nomark _)))))), ?_⟩
    obtain ⟨dx, _, _, _, ha, _⟩ := id bka
    obtain ⟨dy, _, _, _, hb, _⟩ := id bkb
    have two : CmpTwo T.C_Book (.ref a) (.ref b) H a (.ref b) := ⟨⟨dx, _, ha⟩, .inl ⟨rfl, rfl, .inr ⟨b, dy, _, rfl, hb⟩⟩⟩
    refine ⟨_, rfl, _, rfl, a, .ref b, two, a, .ref b, ts, ls, rfl, bka, ok, .inr ⟨b, ts, ls, rfl, bkb, ok, ?_⟩⟩
    rw [eqv_td, eqv_rs, decide_eq_true rfl, decide_eq_true rfl]
    refine ⟨_, _, rfl, rfl, _, rfl, iteT ?_⟩
    refine ⟨_, rfl, _, rfl, a, .ref b, two, a, .ref b, ts, ls, rfl, bka, ok, .inr ⟨b, ts, ls, rfl, bkb, ok, ?_⟩⟩
    rw [eqv_td, eqv_rs, decide_eq_true rfl, decide_eq_true rfl]
    exact ⟨_, rfl, _, _, rfl, rfl, k⟩
def sp_pairs (C : Addr) : Sp := fun vs H Q _ => ∃ (d g a b : Addr) (ts us : List Str) (ls ms : List (List Str)), vs = [.ref d, .ref a, .ref b] ∧ Deck H d g ∧ Bk C H d g a ts ls ∧ Bk C H d g b us ms ∧ TasksOk ts ∧ TasksOk us ∧ ts.length + us.length ≤ 20 ∧ ls.length ≤ 20 ∧ ms.length ≤ 20 ∧ common ts us = [] ∧ ∀ H', Std H H' d g → Q (.bl true) H'
set_option maxHeartbeats 1600000 in
theorem ok_law_pairs_right (T : Tx K w mg) : FnOk P w K mg base CX0 9 T.f_law_pairs_right T.d_law_pairs_right ["deck", "one", "two"] (sp_pairs T.C_Book) := by
  refine T.F_law_pairs_right.ok sc_law_pairs_right (fun vs H Q E h => ?_) (fun cdv A outer s H vs Q E hr h => ?_)
  · obtain ⟨d, g, a, b, ts, us, ls, ms, rfl, _⟩ := h
    rfl
  · obtain ⟨d, g, a, b, ts, us, ls, ms, rfl, hD, bka, bkb, oka, okb, few, f1, f2, nc, k⟩ := h
    refine ⟨_,
    (pss_cons
      (ps_set (i := 3) sc_law_pairs_right.nd rfl (.inl rfl) (pe_meth (pv 1) T.cl_Book T.me_Book_beside (ok_Book_beside T) (hr.mono (by decide)) T.b_Book_beside .nil passL (pa_cons (pv 2) pa_nil)))
    (pss_cons
      (ps_if (PW.pt (pw_or (pt_not (pt_val (pe_call (ok_law_equal T) (hr.mono (by decide)) (by rfl) T.g_law_equal T.F_law_equal.kp T.b_law_equal .nil pass0 (pa_cons (pv 3) (pa_cons (pe_op (op_andOwn T.sf_Book T.me_Book_and (ok_Book_and T) (hr.mono (by decide)) T.b_Book_and) (pv 1) (pv 2)) pa_nil))))) (pw_or1 (pt_not (pt_val (pe_call (ok_law_equal T) (hr.mono (by decide)) (by rfl) T.g_law_equal T.F_law_equal.kp T.b_law_equal .nil pass0 (pa_cons (pe_meth0 (pv 3) T.cl_Book T.me_Book_turned (ok_Book_turned T) (hr.mono (by decide)) T.b_Book_turned .nil pass0) (pa_cons (pe_meth (pe_meth0 (pv 1) T.cl_Book T.me_Book_turned (ok_Book_turned T) (hr.mono (by decide)) T.b_Book_turned .nil pass0) T.cl_Book T.me_Book_beside (ok_Book_beside T) (hr.mono (by decide)) T.b_Book_beside .nil passL (pa_cons (pe_meth0 (pv 2) T.cl_Book T.me_Book_turned (ok_Book_turned T) (hr.mono (by decide)) T.b_Book_turned .nil pass0) pa_nil)) pa_nil))))))))
        (pss_one
          (ps_ret pe_bl))
        pss_nil)
    (pss_cons
      (ps_if (pt_not (pt_val (pe_call (ok_law_equal T) (hr.mono (by decide)) (by rfl) T.g_law_equal T.F_law_equal.kp T.b_law_equal .nil pass0 (pa_cons (pe_meth0 (pe_op (op_andOwn T.sf_Book T.me_Book_and (ok_Book_and T) (hr.mono (by decide)) T.b_Book_and) (pv 1) (pv 2)) T.cl_Book T.me_Book_exchanged (ok_Book_exchanged T) (hr.mono (by decide)) T.b_Book_exchanged .nil pass0) (pa_cons (pe_op (op_andOwn T.sf_Book T.me_Book_and (ok_Book_and T) (hr.mono (by decide)) T.b_Book_and) (pe_meth0 (pv 1) T.cl_Book T.me_Book_exchanged (ok_Book_exchanged T) (hr.mono (by decide)) T.b_Book_exchanged .nil pass0) (pe_meth0 (pv 2) T.cl_Book T.me_Book_exchanged (ok_Book_exchanged T) (hr.mono (by decide)) T.b_Book_exchanged .nil pass0)) pa_nil)))))
        (pss_one
          (ps_ret pe_bl))
        pss_nil)
    (pss_cons
      (ps_set (i := 4) sc_law_pairs_right.nd rfl (.inl rfl) (pe_call (ok_law_rule T) (hr.mono (by decide)) (by rfl) T.g_law_rule T.F_law_rule.kp T.b_law_rule .nil pass0 (pa_cons (pv 0) (pa_cons (pe_prop (pv 3) T.cl_Book T.pr_Book_tasks (ok_Book_tasks T) (hr.mono (by decide)) T.b_Book_tasks .nil pass0 (by rfl)) pa_nil))))
    (pss_cons
      (ps_if (pt_not (pt_val (pe_call (ok_law_equal T) (hr.mono (by decide)) (by rfl) T.g_law_equal T.F_law_equal.kp T.b_law_equal .nil pass0 (pa_cons (pe_meth0 (pe_meth (pv 3) T.cl_Book T.me_Book_with_rules (ok_Book_with_rules T) (hr.mono (by decide)) T.b_Book_with_rules .nil pass0 (pa_cons (pe_lst (pa_cons (pv 4) pa_nil)) pa_nil)) T.cl_Book T.me_Book_turned (ok_Book_turned T) (hr.mono (by decide)) T.b_Book_turned .nil pass0) (pa_cons (pe_meth (pe_meth0 (pv 3) T.cl_Book T.me_Book_turned (ok_Book_turned T) (hr.mono (by decide)) T.b_Book_turned .nil pass0) T.cl_Book T.me_Book_with_rules (ok_Book_with_rules T) (hr.mono (by decide)) T.b_Book_with_rules .nil pass0 (pa_cons (pe_lst (pa_cons (pe_call (ok_law_backward T) (hr.mono (by decide)) (by rfl) T.g_law_backward T.F_law_backward.kp T.b_law_backward .nil pass0 (pa_cons (pv 4) pa_nil)) pa_nil)) pa_nil)) pa_nil)))))
        (pss_one
          (ps_ret pe_bl))
        pss_nil)
    (pss_cons
      (ps_if (pt_not (pt_val (pe_call (ok_law_equal T) (hr.mono (by decide)) (by rfl) T.g_law_equal T.F_law_equal.kp T.b_law_equal .nil pass0 (pa_cons (pe_meth0 (pe_meth0 (pv 1) T.cl_Book T.me_Book_turned (ok_Book_turned T) (hr.mono (by decide)) T.b_Book_turned .nil pass0) T.cl_Book T.me_Book_exchanged (ok_Book_exchanged T) (hr.mono (by decide)) T.b_Book_exchanged .nil pass0) (pa_cons (pe_meth0 (pe_meth0 (pv 1) T.cl_Book T.me_Book_exchanged (ok_Book_exchanged T) (hr.mono (by decide)) T.b_Book_exchanged .nil pass0) T.cl_Book T.me_Book_turned (ok_Book_turned T) (hr.mono (by decide)) T.b_Book_turned .nil pass0) pa_nil)))))
        (pss_one
          (ps_ret pe_bl))
        pss_nil)
    (pss_one
      (ps_ret (pe_call (ok_law_equal T) (hr.mono (by decide)) (by rfl) T.g_law_equal T.F_law_equal.kp T.b_law_equal .nil pass0 (pa_cons (pe_meth0 (pe_meth0 (pe_meth (pe_meth (pv 1) T.cl_Book T.me_Book_then (ok_Book_then T) (hr.mono (by decide)) T.b_Book_then .nil passL (pa_cons (pv 2) pa_nil)) T.cl_Book T.me_Book_without (ok_Book_without T) (hr.mono (by decide)) T.b_Book_without .nil pass0 (pa_cons (pe_op op_add (pe_callB (call_lenOwn T.cl_Book T.me_Book_len (ok_Book_len T) (hr.mono (by decide)) T.b_Book_len) (by rfl) T.m_len (by decide +kernel) (pa_cons (pv 1) pa_nil)) (pe_callB (call_lenOwn T.cl_Book T.me_Book_len (ok_Book_len T) (hr.mono (by decide)) T.b_Book_len) (by rfl) T.m_len (by decide +kernel) (pa_cons (pv 2) pa_nil))) pa_nil)) T.cl_Book T.me_Book_turned (ok_Book_turned T) (hr.mono (by decide)) T.b_Book_turned .nil pass0) T.cl_Book T.me_Book_turned (ok_Book_turned T) (hr.mono (by decide)) T.b_Book_turned .nil pass0) (pa_cons (pe_meth (pe_meth (pv 1) T.cl_Book T.me_Book_then (ok_Book_then T) (hr.mono (by decide)) T.b_Book_then .nil passL (pa_cons (pv 2) pa_nil)) T.cl_Book T.me_Book_without (ok_Book_without T) (hr.mono (by decide)) T.b_Book_without .nil pass0 (pa_cons (pe_callB (call_lenOwn T.cl_Book T.me_Book_len (ok_Book_len T) (hr.mono (by decide)) T.b_Book_len) (by rfl) T.m_len (by decide +kernel) (pa_cons (pv 3) pa_nil)) pa_nil)) pa_nil))))))))))), ?_⟩
    have okj : TasksOk (ts ++ us) := by
      rw [← uni_none nc]
      exact tasks_uni oka okb (by omega)
    obtain ⟨ax, a1, a2, ea, kra⟩ := bka.parts (K := K)
    obtain ⟨bx, b1, b2, eb, krb⟩ := bkb.parts (K := K)
    have rla : ∀ l ∈ ls, RuleOk ts l := by
      obtain ⟨_, _, _, _, _, _, _, r⟩ := kra
      exact r.all
    have rlb : ∀ l ∈ ms, RuleOk us l := by
      obtain ⟨_, _, _, _, _, _, _, r⟩ := krb
      exact r.all
    have no : ∀ {z r} {α : Prop}, common ts us = z :: r → α := fun {z r α} e => by rw [nc] at e; cases e
    refine ⟨_, rfl, a, ax, _, rfl, ea, fl_beside a1 a2, _, rfl, a, b, ts, us, ls, ms, rfl, kra, krb, oka, okb, by omega, by omega, by omega, fun _ x dx p q as H1 s1 fp fq ex ep eq rl => ?_, fun z r e => no e⟩
    have bkx : Bk T.C_Book H1 d g x (ts ++ us) (ls ++ ms) := Bk.of hD fp fq ex ep eq rl
    have st1 : Std H H1 d g := (Std.refl hD).same s1
    have bka1 := bka.keep hD st1.kd
    have bkb1 := bkb.keep hD st1.kd
    clear kra krb ea eb bka bkb rl eq ep ex fp fq s1
    have hD1 := st1.dk
    obtain ⟨ax, a1, a2, ea, kra⟩ := bka1.parts (K := K)
    obtain ⟨bx, b1, b2, eb, krb⟩ := bkb1.parts (K := K)
    -- beside and joined
    refine ⟨_, rfl, _, rfl, _, rfl, a, b, ax, bx, _, _, rfl, rfl, ea, eb, a, b, ts, us, ls, ms, rfl, kra, krb, oka, okb, by omega, by omega, by omega, fun y dy p q as H2 s2 fp fq ey ep eq rl => ?_⟩
    rw [uni_none nc] at ep rl
    have st2 := st1.same s2
    obtain ⟨_, _, _, _, krx⟩ := (bkx.keep hD1 (Same.kd s2)).parts (K := K)
    refine ⟨x, y, ts ++ us, ls ++ ms, rfl, krx, ⟨dy, p, q, as, ey, ep, eq, rl⟩, okj, ?_⟩
    refine ⟨_, rfl, ?_⟩
    clear krx krb kra eb ea
    have hD2 := st2.dk
    have x2 := bkx.keep hD1 (Same.kd s2)
    have A2 := bka1.keep hD1 (Same.kd s2)
    have B2 := bkb1.keep hD1 (Same.kd s2)
    clear rl eq ep ey fp fq s2 bkx bka1 bkb1
    have l1 : (ls ++ ms).length ≤ 40 := by rw [List.length_append]; omega
    have lt : (ls.map turn).length ≤ 20 := by rw [List.length_map]; exact f1
    have mt : (ms.map turn).length ≤ 20 := by rw [List.length_map]; exact f2
    -- turned
    obtain ⟨dx, p, q, ex, kx⟩ := x2.parts (K := K)
    refine ⟨_, rfl, x, dx, _, rfl, ex, fl_turn p q, x, ts ++ us, ls ++ ms, rfl, kx, okj, by omega, fun y dy p q as H3 s3 fp fq ey ep eq rl => ?_⟩
    have y3 : Bk T.C_Book H3 d g y (ts ++ us) ((ls ++ ms).map turn) := Bk.of hD2 fp fq ey ep eq rl
    have hD3 := hD2.same s3
    have A3 := A2.keep hD2 (Same.kd s3)
    have B3 := B2.keep hD2 (Same.kd s3)
    clear rl eq ep ey fp fq kx ex
    obtain ⟨dx, p, q, ex, kx⟩ := A3.parts (K := K)
    refine ⟨_, rfl, a, dx, _, rfl, ex, fl_turn p q, a, ts, ls, rfl, kx, oka, by omega, fun u du p q as H4 s4 fp fq ey ep eq rl => ?_⟩
    have u4 : Bk T.C_Book H4 d g u ts (ls.map turn) := Bk.of hD3 fp fq ey ep eq rl
    have hD4 := hD3.same s4
    have B4 := B3.keep hD3 (Same.kd s4)
    clear rl eq ep fp fq kx ex
    obtain ⟨dx, p', q', ex, kx⟩ := B4.parts (K := K)
    refine ⟨u, du, _, rfl, ey, fl_beside p q, _, rfl, b, dx, _, rfl, ex, fl_turn p' q', b, us, ms, rfl, kx, okb, by omega, fun v dv p q as H5 s5 fp fq ey ep eq rl => ?_⟩
    have v5 : Bk T.C_Book H5 d g v us (ms.map turn) := Bk.of hD4 fp fq ey ep eq rl
    have hD5 := hD4.same s5
    have u5 := u4.keep hD4 (Same.kd s5)
    clear rl eq ep ey fp fq kx ex
    obtain ⟨_, _, _, _, ku⟩ := u5.parts (K := K)
    obtain ⟨_, _, _, _, kv⟩ := v5.parts (K := K)
    refine ⟨u, v, ts, us, ls.map turn, ms.map turn, rfl, ku, kv, oka, okb, by omega, by omega, by omega, fun _ w dw p q as H6 s6 fp fq ey ep eq rl => ?_, fun z r e => no e⟩
    have w6 : Bk T.C_Book H6 d g w (ts ++ us) ((ls ++ ms).map turn) := by
      rw [List.map_append]
      exact Bk.of hD5 fp fq ey ep eq rl
    have hD6 := hD5.same s6
    have s36 := (s4.trans s5).trans s6
    obtain ⟨_, _, _, _, ku⟩ := (y3.keep hD3 (Same.kd s36)).parts (K := K)
    obtain ⟨_, _, _, _, kv⟩ := w6.parts (K := K)
    refine ⟨y, w, ts ++ us, (ls ++ ms).map turn, rfl, ku, kv, okj, ?_⟩
    refine ⟨_, rfl, ?_⟩
    have st6 := st2.same (s3.trans s36)
    have x6 := x2.keep hD2 (Same.kd (s3.trans s36))
    have A6 := A2.keep hD2 (Same.kd (s3.trans s36))
    have B6 := B2.keep hD2 (Same.kd (s3.trans s36))
    clear w6 rl eq ep ey fp fq ku kv v5 u5 u4 y3 A3 B3 B4 s36 s6 s5 s4 s3 hD3 hD4 hD5 x2 A2 B2 hD2 st2 st1 hD1
    -- exchanged
    obtain ⟨ax, p1, q1, ea, ka⟩ := A6.parts (K := K)
    obtain ⟨bx, p2, q2, eb, kb⟩ := B6.parts (K := K)
    refine ⟨_, rfl, _, rfl, a, b, ax, bx, _, _, rfl, rfl, ea, eb, a, b, ts, us, ls, ms, rfl, ka, kb, oka, okb, by omega, by omega, by omega, fun y dy p q as H7 s7 fp fq ey ep eq rl => ?_⟩
    rw [uni_none nc] at ep rl
    have ky : BkR K T.C_Book H7 y (ts ++ us) (ls ++ ms) := ⟨dy, p, q, as, ey, ep, eq, rl⟩
    refine ⟨y, dy, _, rfl, ey, fl_exch p q, y, ts ++ us, ls ++ ms, rfl, ky, okj, by omega, fun u du p' q' as' H8 s8 fp' fq' eu ep' eq' rl' => ?_⟩
    have hD7 := hD6.same s7
    have u8 : Bk T.C_Book H8 d g u (ts ++ us) ((ls ++ ms).map exch) := Bk.of hD7 fp' fq' eu ep' eq' rl'
    have hD8 := hD7.same s8
    have A8 := A6.keep hD6 (Same.kd (s7.trans s8))
    have B8 := B6.keep hD6 (Same.kd (s7.trans s8))
    clear rl' eq' ep' eu fp' fq' ky rl eq ep ey fp fq kb eb ka ea
    obtain ⟨ax, p1, q1, ea, ka⟩ := A8.parts (K := K)
    refine ⟨_, rfl, a, ax, _, rfl, ea, fl_exch p1 q1, a, ts, ls, rfl, ka, oka, by omega, fun v dv p q as H9 s9 fp fq ev ep eq rl => ?_⟩
    have v9 : Bk T.C_Book H9 d g v ts (ls.map exch) := Bk.of hD8 fp fq ev ep eq rl
    have hD9 := hD8.same s9
    have B9 := B8.keep hD8 (Same.kd s9)
    clear rl eq ep fp fq ka ea
    obtain ⟨bx, p2, q2, eb, kb⟩ := B9.parts (K := K)
    refine ⟨_, rfl, b, bx, _, rfl, eb, fl_exch p2 q2, b, us, ms, rfl, kb, okb, by omega, fun w dw p' q' as' H10 s10 fp' fq' ew ep' eq' rl' => ?_⟩
    have w10 : Bk T.C_Book H10 d g w us (ms.map exch) := Bk.of hD9 fp' fq' ew ep' eq' rl'
    have hD10 := hD9.same s10
    clear rl' eq' ep' fp' fq' kb eb
    obtain ⟨_, _, _, _, kv⟩ := (v9.keep hD9 (Same.kd s10)).parts (K := K)
    obtain ⟨_, _, _, _, kw⟩ := w10.parts (K := K)
    refine ⟨v, w, dv, dw, _, _, rfl, rfl, s10 _ _ ev, ew, v, w, ts, us, ls.map exch, ms.map exch, rfl, kv, kw, oka, okb, by omega, by rw [List.length_map]; omega, by rw [List.length_map]; omega, fun y2 dy2 p q as H11 s11 fp fq ey ep eq rl => ?_⟩
    rw [uni_none nc, ← List.map_append] at *
    have s811 := (s9.trans s10).trans s11
    obtain ⟨_, _, _, _, ku⟩ := (u8.keep hD8 (Same.kd s811)).parts (K := K)
    refine ⟨u, y2, ts ++ us, (ls ++ ms).map exch, rfl, ku, ⟨dy2, p, q, as, ey, ep, eq, rl⟩, okj, ?_⟩
    refine ⟨_, rfl, ?_⟩
    have s611 := (s7.trans s8).trans s811
    have st11 := st6.same s611
    have x11 := x6.keep hD6 (Same.kd s611)
    have A11 := A6.keep hD6 (Same.kd s611)
    have B11 := B6.keep hD6 (Same.kd s611)
    clear s611 ku rl eq ep ey fp fq s811 kv kw w10 v9 u8 B9 A8 B8 x6 A6 B6 s11 s10 s9 s8 s7 hD7 hD8 hD9 hD10 hD6 st6 ew ev
    have hD11 := st11.dk
    -- a rule more, and turned
    obtain ⟨dx, p, q, ex, kx⟩ := x11.parts (K := K)
    have lx := (x11.parts_at ex).2.2
    refine ⟨_, rfl, _, rfl, x, dx, _, rfl, ex, x, dx, p, q, p, _, rfl, ex, fl_t p q, .of lx.at_, fun U hU => ?_⟩
    have zU := same_upd (o := .lst ((ts ++ us).map V.str)) hU
    have lU : Lat (upd H11 U (.lst ((ts ++ us).map V.str))) d g U ((ts ++ us).map V.str) := Lat.new hD11 hU
    have x12 := x11.keep hD11 (Same.kd zU)
    have A12 := A11.keep hD11 (Same.kd zU)
    have B12 := B11.keep hD11 (Same.kd zU)
    have st12 := st11.same zU
    clear kx lx ex
    generalize upd H11 U (.lst ((ts ++ us).map V.str)) = H12 at *
    refine ⟨d, g, U, ts ++ us, rfl, st12.dk, lU, okj, fun G l H13 s13 _ eG rok => ?_⟩
    have x13 := x12.keep st12.dk s13.kd
    have A13 := A12.keep st12.dk s13.kd
    have B13 := B12.keep st12.dk s13.kd
    have st13 := st12.trans s13
    have hD13 := st13.dk
    clear x12 A12 B12 lU zU hU hD11 st11 x11 A11 B11 s13 st12
    obtain ⟨dx, p, q, ex, kx⟩ := x13.parts (K := K)
    refine ⟨_, rfl, x, dx, _, rfl, ex, fl_with p q, _, rfl, (by show 1 ≤ sizeLine; decide), fun L hL => ?_⟩
    have zL := same_upd (o := .lst [V.ref G]) hL
    have eL := upd_same (H := H13) (a := L) (o := .lst [V.ref G])
    generalize upd H13 L (.lst [V.ref G]) = H14 at *
    obtain ⟨_, _, _, _, kx⟩ := (x13.keep hD13 (Same.kd zL)).parts (K := K)
    refine ⟨x, L, ts ++ us, ls ++ ms, [l], [G], rfl, kx, eL, .cons (zL _ _ eG) rok .nil, okj, by omega, by simp, fun y dy p q as H15 s15 fp fq ey ep eq rl => ?_⟩
    have hD14 := hD13.same zL
    refine ⟨y, dy, _, rfl, ey, fl_turn p q, y, ts ++ us, (ls ++ ms) ++ [l], rfl, ⟨dy, p, q, as, ey, ep, eq, rl⟩, okj, by rw [List.length_append]; show _ + 1 ≤ 1000; omega, fun u du p' q' as' H16 s16 fp' fq' eu ep' eq' rl' => ?_⟩
    have hD15 := hD14.same s15
    have u16 : Bk T.C_Book H16 d g u (ts ++ us) (((ls ++ ms) ++ [l]).map turn) := Bk.of hD15 fp' fq' eu ep' eq' rl'
    have hD16 := hD15.same s16
    have z1316 := (zL.trans s15).trans s16
    have x16 := x13.keep hD13 (Same.kd z1316)
    have eG16 := z1316 _ _ eG
    clear rl' eq' ep' eu fp' fq' rl eq ep ey fp fq kx eL hL ex
    obtain ⟨dx, p, q, ex, kx⟩ := x16.parts (K := K)
    refine ⟨_, rfl, x, dx, _, rfl, ex, fl_turn p q, x, ts ++ us, ls ++ ms, rfl, kx, okj, by omega, fun v dv p q as H17 s17 fp fq ev ep eq rl => ?_⟩
    have v17 : Bk T.C_Book H17 d g v (ts ++ us) ((ls ++ ms).map turn) := Bk.of hD16 fp fq ev ep eq rl
    have hD17 := hD16.same s17
    clear rl eq ep fp fq kx ex
    refine ⟨v, dv, _, rfl, ev, fl_with p q, _, rfl, G, ts ++ us, l, rfl, s17 _ _ eG16, rok, fun G2 H18 s18 eG2 => ⟨(by show 1 ≤ sizeLine; decide), fun L2 hL2 => ?_⟩⟩
    have zL2 := same_upd (o := .lst [V.ref G2]) hL2
    have eL2 := upd_same (H := H18) (a := L2) (o := .lst [V.ref G2])
    generalize upd H18 L2 (.lst [V.ref G2]) = H19 at *
    have z1719 := s18.trans zL2
    obtain ⟨_, _, _, _, kv⟩ := (v17.keep hD17 (Same.kd z1719)).parts (K := K)
    refine ⟨v, L2, ts ++ us, (ls ++ ms).map turn, [turn l], [G2], rfl, kv, eL2, .cons (zL2 _ _ eG2) (turn_ok rok) .nil, okj, by rw [List.length_map]; omega, by simp, fun w dw p q as H20 s20 fp fq ew ep eq rl => ?_⟩
    have z1620 := (s17.trans z1719).trans s20
    obtain ⟨_, _, _, _, ku⟩ := (u16.keep hD16 (Same.kd z1620)).parts (K := K)
    have emap : ((ls ++ ms) ++ [l]).map turn = (ls ++ ms).map turn ++ [turn l] := by rw [List.map_append]; rfl
    rw [emap] at ku
    refine ⟨u, w, ts ++ us, (ls ++ ms).map turn ++ [turn l], rfl, ku, ⟨dw, p, q, as, ew, ep, eq, rl⟩, okj, ?_⟩
    refine ⟨_, rfl, ?_⟩
    have z1320 := z1316.trans z1620
    have st20 := st13.same z1320
    have x20 := x13.keep hD13 (Same.kd z1320)
    have A20 := A13.keep hD13 (Same.kd z1320)
    have B20 := B13.keep hD13 (Same.kd z1320)
    clear ku rl eq ep ew fp fq kv eL2 hL2 eG2 v17 ev x16 u16 eG16 x13 A13 B13 z1320 z1620 z1316 z1719 zL2 s20 s18 s17 s16 s15 zL hD13 hD14 hD15 hD16 hD17 eG st13 emap
    have hD20 := st20.dk
    -- turned and exchanged
    obtain ⟨dx, p, q, ex, kx⟩ := A20.parts (K := K)
    refine ⟨_, rfl, a, dx, _, rfl, ex, fl_turn p q, a, ts, ls, rfl, kx, oka, by omega, fun y dy p q as H21 s21 fp fq ey ep eq rl => ?_⟩
    refine ⟨y, dy, _, rfl, ey, fl_exch p q, y, ts, ls.map turn, rfl, ⟨dy, p, q, as, ey, ep, eq, rl⟩, oka, by omega, fun u du p' q' as' H22 s22 fp' fq' eu ep' eq' rl' => ?_⟩
    have hD21 := hD20.same s21
    have u22 : Bk T.C_Book H22 d g u ts ((ls.map turn).map exch) := Bk.of hD21 fp' fq' eu ep' eq' rl'
    have hD22 := hD21.same s22
    have A22 := A20.keep hD20 (Same.kd (s21.trans s22))
    clear rl' eq' ep' eu fp' fq' rl eq ep ey fp fq kx ex
    obtain ⟨dx, p, q, ex, kx⟩ := A22.parts (K := K)
    refine ⟨_, rfl, a, dx, _, rfl, ex, fl_exch p q, a, ts, ls, rfl, kx, oka, by omega, fun y dy p q as H23 s23 fp fq ey ep eq rl => ?_⟩
    refine ⟨y, dy, _, rfl, ey, fl_turn p q, y, ts, ls.map exch, rfl, ⟨dy, p, q, as, ey, ep, eq, rl⟩, oka, by rw [List.length_map]; omega, fun v dv p' q' as' H24 s24 fp' fq' ev ep' eq' rl' => ?_⟩
    obtain ⟨_, _, _, _, ku⟩ := (u22.keep hD22 (Same.kd (s23.trans s24))).parts (K := K)
    rw [exch_turns rla] at ku
    refine ⟨u, v, ts, (ls.map exch).map turn, rfl, ku, ⟨dv, p', q', as', ev, ep', eq', rl'⟩, oka, ?_⟩
    refine ⟨_, rfl, ?_⟩
    have z2024 := (s21.trans s22).trans (s23.trans s24)
    have st24 := st20.same z2024
    have x24 := x20.keep hD20 (Same.kd z2024)
    have A24 := A20.keep hD20 (Same.kd z2024)
    have B24 := B20.keep hD20 (Same.kd z2024)
    clear ku rl' eq' ep' ev fp' fq' rl eq ep ey fp fq kx ex A22 u22 z2024 s24 s23 s22 s21 x20 A20 B20 hD20 hD21 hD22 st20
    have hD24 := st24.dk
    -- one after the other, a rule less
    obtain ⟨ax, p1, q1, ea, ka⟩ := A24.parts (K := K)
    obtain ⟨bx, p2, q2, eb, kb⟩ := B24.parts (K := K)
    have pl : 0 < (prs ts us).length := by
      rw [prs_len]
      exact Nat.mul_pos (List.length_pos_iff.mpr oka.ne) (List.length_pos_iff.mpr okb.ne)
    have pm : (prs ts us).length ≤ 100 := by
      rw [prs_len]
      exact prod100 _ (by omega) _ (by omega) few
    have rlj : ∀ l ∈ (ls ++ ms) ++ prs ts us, RuleOk (ts ++ us) l := fun l hl => by
      rcases List.mem_append.mp hl with h | h
      · rcases List.mem_append.mp h with h | h
        · exact (rla l h).more fun z hz => List.mem_append_left _ hz
        · exact (rlb l h).more fun z hz => List.mem_append_right _ hz
      · exact prs_ok (apart_of nc) l h
    refine ⟨_, rfl, a, ax, _, rfl, ea, fl_then p1 q1, _, rfl, a, b, ts, us, ls, ms, rfl, ka, kb, oka, okb, by omega, by omega, by omega, fun _ y dy p q as H25 s25 fp fq ey ep eq rl => ?_, fun z r e => no e⟩
    have y25 : Bk T.C_Book H25 d g y (ts ++ us) ((ls ++ ms) ++ prs ts us) := Bk.of hD24 fp fq ey ep eq rl
    have hD25 := hD24.same s25
    have x25 := x24.keep hD24 (Same.kd s25)
    have A25 := A24.keep hD24 (Same.kd s25)
    have B25 := B24.keep hD24 (Same.kd s25)
    clear rl eq ep fp fq kb ka ea eb
    obtain ⟨ax, p1, q1, ea, ka⟩ := A25.parts (K := K)
    obtain ⟨bx, p2, q2, eb, kb⟩ := B25.parts (K := K)
    obtain ⟨aa, la, na⟩ := A25.rules_at ea
    obtain ⟨ba, lb, nb⟩ := B25.rules_at eb
    refine ⟨y, dy, _, rfl, ey, fl_wout p q, _, rfl, a, ax, _, rfl, ea, a, ax, p1, q1, _, rfl, ea, .of la.at_, _, rfl, by omega, ?_, ?_⟩
    · rw [List.length_map]; omega
    refine ⟨_, rfl, b, bx, _, rfl, eb, b, bx, p2, q2, _, rfl, eb, .of lb.at_, _, rfl, by omega, ?_, _, _, rfl, rfl, ?_⟩
    · rw [List.length_map]; omega
    have tot : ((ls ++ ms) ++ prs ts us).length = (ls.length + ms.length) + (prs ts us).length := by rw [List.length_append, List.length_append]
    have iN : ((aa.map V.ref).length : Int) + ((ba.map V.ref).length : Int) = ((ls.length + ms.length : Nat) : Int) := by
      rw [List.length_map, List.length_map, na, nb]
      rfl
    obtain ⟨_, _, _, _, ky⟩ := y25.parts (K := K)
    refine ⟨y, ls.length + ms.length, ts ++ us, (ls ++ ms) ++ prs ts us, ?_, ky, okj, by omega, by omega, fun w dw p q as H26 s26 fp fq ew ep eq rl => ?_⟩
    · show [V.ref y, V.int _] = _
      rw [iN]
    generalize hR : ((ls ++ ms) ++ prs ts us).take (ls.length + ms.length) ++ ((ls ++ ms) ++ prs ts us).drop (ls.length + ms.length + 1) = R at *
    have rR : ∀ l ∈ R, RuleOk (ts ++ us) l := fun l hl => by
      rw [← hR] at hl
      rcases List.mem_append.mp hl with h | h
      · exact rlj l (List.mem_of_mem_take h)
      · exact rlj l (List.mem_of_mem_drop h)
    have lR : R.length ≤ 200 := by
      rw [← hR, List.length_append, List.length_take, List.length_drop]
      omega
    have hD26 := hD25.same s26
    refine ⟨w, dw, _, rfl, ew, fl_turn p q, w, ts ++ us, R, rfl, ⟨dw, p, q, as, ew, ep, eq, rl⟩, okj, by omega, fun u du p q as H27 s27 fp' fq' eu ep' eq' rl' => ?_⟩
    have hD27 := hD26.same s27
    refine ⟨u, du, _, rfl, eu, fl_turn p q, u, ts ++ us, R.map turn, rfl, ⟨du, p, q, as, eu, ep', eq', rl'⟩, okj, by rw [List.length_map]; omega, fun v dv p q as H28 s28 fp2 fq2 ev ep2 eq2 rl2 => ?_⟩
    have v28 : Bk T.C_Book H28 d g v (ts ++ us) R := by
      rw [turn2s rR] at rl2
      exact Bk.of hD27 fp2 fq2 ev ep2 eq2 rl2
    have hD28 := hD27.same s28
    have z2528 := (s26.trans s27).trans s28
    have x28 := x25.keep hD25 (Same.kd z2528)
    have A28 := A25.keep hD25 (Same.kd z2528)
    have B28 := B25.keep hD25 (Same.kd z2528)
    clear rl2 eq2 ep2 ev fp2 fq2 rl' eq' ep' eu fp' fq' rl eq ep ew fp fq ky x25 A25 B25 y25 la lb na nb ka kb ea eb
    obtain ⟨ax, p1, q1, ea, ka⟩ := A28.parts (K := K)
    obtain ⟨bx, p2, q2, eb, kb⟩ := B28.parts (K := K)
    refine ⟨_, rfl, a, ax, _, rfl, ea, fl_then p1 q1, _, rfl, a, b, ts, us, ls, ms, rfl, ka, kb, oka, okb, by omega, by omega, by omega, fun _ y dy p q as H29 s29 fp fq ey ep eq rl => ?_, fun z r e => no e⟩
    have x29 := x28.keep hD28 (Same.kd s29)
    obtain ⟨dx, p3, q3, ex, _⟩ := x29.parts (K := K)
    obtain ⟨xa, lxa, nxa⟩ := x29.rules_at ex
    refine ⟨y, dy, _, rfl, ey, fl_wout p q, _, rfl, x, dx, _, rfl, ex, x, dx, p3, q3, _, rfl, ex, .of lxa.at_, _, rfl, by omega, ?_, ?_⟩
    · rw [List.length_map]; omega
    have jN : ((xa.map V.ref).length : Int) = ((ls.length + ms.length : Nat) : Int) := by
      rw [List.length_map, nxa, List.length_append]
    refine ⟨y, ls.length + ms.length, ts ++ us, (ls ++ ms) ++ prs ts us, ?_, ⟨dy, p, q, as, ey, ep, eq, rl⟩, okj, by omega, by omega, fun w dw p q as H30 s30 fp' fq' ew ep' eq' rl' => ?_⟩
    · show [V.ref y, V.int _] = _
      rw [jN]
    rw [hR] at rl'
    have z2830 := s29.trans s30
    obtain ⟨_, _, _, _, kv⟩ := (v28.keep hD28 (Same.kd z2830)).parts (K := K)
    refine ⟨v, w, ts ++ us, R, rfl, kv, ⟨dw, p, q, as, ew, ep', eq', rl'⟩, okj, ?_⟩
    exact k _ (((st24.same s25).same z2528).same z2830)
/-! ### the days of books one after another -/
theorem cut_mid (xs : List Int) (i n : Nat) (h : i + n ≤ xs.length) : cutV (xs.map V.int) (some (i : Int)) (some ((i : Int) + (n : Int))) = ((xs.drop i).take n).map V.int := by
  unfold cutV
  rw [List.length_map, show HT.sIx xs.length 0 (some (i : Int)) = min i xs.length from HT.sIx_nat _ _ i, show (i : Int) + (n : Int) = ((i + n : Nat) : Int) from rfl, show HT.sIx xs.length xs.length (some ((i + n : Nat) : Int)) = min (i + n) xs.length from HT.sIx_nat _ _ (i + n), Nat.min_eq_left (show i ≤ xs.length by omega), Nat.min_eq_left h, Nat.add_sub_cancel_left, List.map_take, List.map_drop]
/-- the greatest of a list, from m on -/
def mx : List Int → Int
  | [] => 0
  | [x] => x
  | x :: y :: r => if mx (y :: r) ≤ x then x else mx (y :: r)
def mn : List Int → Int
  | [] => 0
  | [x] => x
  | x :: y :: r => if x ≤ mn (y :: r) then x else mn (y :: r)
theorem mx_is : ∀ {xs : List Int}, xs ≠ [] → mx xs ∈ xs ∧ ∀ y ∈ xs, y ≤ mx xs
  | [x], _ => ⟨List.mem_singleton.mpr rfl, fun y h => by rw [List.mem_singleton.mp h]; exact Int.le_refl _⟩
  | x :: y :: r, _ => by
    obtain ⟨h1, h2⟩ := mx_is (xs := y :: r) (by simp)
    have e : mx (x :: y :: r) = if mx (y :: r) ≤ x then x else mx (y :: r) := rfl
    rw [e]
    by_cases c : mx (y :: r) ≤ x
    · rw [if_pos c]
      refine ⟨List.mem_cons_self, fun z hz => ?_⟩
      rcases List.mem_cons.mp hz with h | h
      · rw [h]; exact Int.le_refl _
      · exact Int.le_trans (h2 z h) c
    · rw [if_neg c]
      refine ⟨List.mem_cons_of_mem _ h1, fun z hz => ?_⟩
      rcases List.mem_cons.mp hz with h | h
      · rw [h]; omega
      · exact h2 z h
theorem mn_is : ∀ {xs : List Int}, xs ≠ [] → mn xs ∈ xs ∧ ∀ y ∈ xs, mn xs ≤ y
  | [x], _ => ⟨List.mem_singleton.mpr rfl, fun y h => by rw [List.mem_singleton.mp h]; exact Int.le_refl _⟩
  | x :: y :: r, _ => by
    obtain ⟨h1, h2⟩ := mn_is (xs := y :: r) (by simp)
    have e : mn (x :: y :: r) = if x ≤ mn (y :: r) then x else mn (y :: r) := rfl
    rw [e]
    by_cases c : x ≤ mn (y :: r)
    · rw [if_pos c]
      refine ⟨List.mem_cons_self, fun z hz => ?_⟩
      rcases List.mem_cons.mp hz with h | h
      · rw [h]; exact Int.le_refl _
      · exact Int.le_trans c (h2 z h)
    · rw [if_neg c]
      refine ⟨List.mem_cons_of_mem _ h1, fun z hz => ?_⟩
      rcases List.mem_cons.mp hz with h | h
      · rw [h]; omega
      · exact h2 z h
theorem mx_one {xs : List Int} {m : Int} (h : m ∈ xs) (g : ∀ y ∈ xs, y ≤ m) : m = mx xs := by
  obtain ⟨h1, h2⟩ := mx_is (List.ne_nil_of_mem h)
  exact Int.le_antisymm (h2 m h) (g _ h1)
theorem mn_one {xs : List Int} {m : Int} (h : m ∈ xs) (g : ∀ y ∈ xs, m ≤ y) : m = mn xs := by
  obtain ⟨h1, h2⟩ := mn_is (List.ne_nil_of_mem h)
  exact Int.le_antisymm (g _ h1) (h2 m h)
/-- all books keep their days, and each one's days are behind those of the one ahead -/
def dueB (n : Int) : List (List Str × List (List Str)) → List Int → Int → Bool
  | [], _, _ => true
  | (ts, ls) :: r, ds, top => !(decide (mn (ds.take ts.length) ≤ top)) && planB ts ls n (ds.take ts.length) && dueB n r (ds.drop ts.length) (mx (ds.take ts.length))
def lens : List (List Str × List (List Str)) → Nat
  | [] => 0
  | (ts, _) :: r => ts.length + lens r
/-- rows of tasks and rules -/
def DataR (H : Hp) (d g : Addr) (us : List Addr) (data : List (List Str × List (List Str))) : Prop := us.length = data.length ∧ ∀ (i : Nat) (u : Addr) (x : List Str × List (List Str)), us[i]? = some u → data[i]? = some x →
  ∃ t r, H u = some (.tup [.ref t, .ref r]) ∧ Lat H d g t (x.1.map V.str) ∧ Rl x.1 H d g r x.2 ∧ TasksOk x.1 ∧ x.2.length ≤ 8
theorem DataR.keep {H H' : Hp} {d g : Addr} {us : List Addr} {data : List (List Str × List (List Str))} (h : DataR H d g us data) (hD : Deck H d g) (k : Kd d g H H') : DataR H' d g us data :=
  ⟨h.1, fun i u x hu hx => by
    obtain ⟨t, r, e, lt, rl, ok, few⟩ := h.2 i u x hu hx
    exact ⟨t, r, Kd.tk k hD _ _ e, lt.keep k, rl.keep hD k, ok, few⟩⟩
def sp_due3 : Sp := fun vs H Q _ => ∃ (d g D p : Addr) (n : Int) (us : List Addr) (data : List (List Str × List (List Str))) (ds : List Int), vs = [.ref D, .int n, .ref p] ∧ Deck H d g ∧ Lat H d g D (us.map V.ref) ∧ DataR H d g us data ∧ Lat H d g p (ds.map V.int) ∧ ds.length = lens data ∧ ds.length ≤ 50 ∧
  ∀ H', Std H H' d g → Q (.bl (dueB n data ds 0)) H'
theorem lens_le : ∀ {data : List (List Str × List (List Str))} {j : Nat} {x : List Str × List (List Str)}, data[j]? = some x → lens (data.take j) + x.1.length + lens (data.drop (j + 1)) = lens data
  | [], _, _, h => by simp at h
  | (ts, ls) :: r, 0, x, h => by
    obtain rfl : (ts, ls) = x := Option.some.inj h
    show 0 + ts.length + lens r = ts.length + lens r
    omega
  | (ts, ls) :: r, j + 1, x, h => by
    have ih := lens_le (data := r) (j := j) h
    show ts.length + lens (r.take j) + x.1.length + lens (r.drop (j + 1)) = ts.length + lens r
    omega
theorem lens_next : ∀ {data : List (List Str × List (List Str))} {j : Nat} {x : List Str × List (List Str)}, data[j]? = some x → lens (data.take (j + 1)) = lens (data.take j) + x.1.length
  | [], _, _, h => by simp at h
  | (ts, ls) :: r, 0, x, h => by
    obtain rfl : (ts, ls) = x := Option.some.inj h
    show ts.length + lens (r.take 0) = 0 + ts.length
    rw [List.take_zero]
    show ts.length + 0 = _
    omega
  | (ts, ls) :: r, j + 1, x, h => by
    have ih := lens_next (data := r) (j := j) h
    show ts.length + lens (r.take (j + 1)) = ts.length + lens (r.take j) + x.1.length
    omega
theorem ok_law_due (T : Tx K w mg) : FnOk P w K mg base CX0 3 T.f_law_due T.d_law_due ["data", "last_day", "days"] sp_due3 := by
  refine T.F_law_due.ok sc_law_due (fun vs H Q E h => ?_) (fun cdv A outer s H vs Q E hr h => ?_)
  · obtain ⟨d, g, D, p, n, us, data, ds, rfl, _⟩ := h
    rfl
  · obtain ⟨d, g, D, p, n, us, data, ds, rfl, hD, lD, rows, lp, el, few, k⟩ := h
    refine ⟨_,
    (pss_cons
      (ps_set (i := 3) sc_law_due.nd rfl (.inl rfl) pe_int)
    (pss_cons
      (ps_set (i := 4) sc_law_due.nd rfl (.inl rfl) pe_int)
    (pss_cons
      (ps_for PassesOwn.never rfl (pi_list (pv 0)) (pg_tup (by rfl) (pgs_cons (pg_name (i := 5) sc_law_due.nd rfl (.inl rfl)) (pgs_cons (pg_name (i := 6) sc_law_due.nd rfl (.inl rfl)) pgs_nil)))
        (pss_cons
          (ps_set (i := 7) sc_law_due.nd rfl (.inl rfl) (pe_slice sl_list (pv 2) (po_some (pv 4)) (po_some (pe_op op_add (pv 4) (pe_callB call_len_seq (by rfl) T.m_len (by decide +kernel) (pa_cons (pv 5) pa_nil))))))
        (pss_cons
          (ps_if (PW.pt (pw_or (pt_cmpR op_le (pe_callB (cr_min rfl) (by rfl) T.m_min (by decide +kernel) (pa_cons (pv 7) pa_nil)) (pv 3) (nomark _)) (pw_or1 (pt_not (pt_val (pe_call (ok_law_is_plan T) hr (by rfl) T.g_law_is_plan T.F_law_is_plan.kp T.b_law_is_plan .nil pass0 (pa_cons (pv 5) (pa_cons (pv 6) (pa_cons (pv 1) (pa_cons (pv 7) pa_nil))))))))))
            (pss_one
              (ps_ret pe_bl))
            pss_nil)
        (pss_cons
          (ps_set (i := 3) sc_law_due.nd rfl (.inl rfl) (pe_callB (cr_max rfl) (by rfl) T.m_max (by decide +kernel) (pa_cons (pv 7) pa_nil)))
        (pss_one
          (ps_set (i := 4) sc_law_due.nd rfl (.inl rfl) (pe_op op_add (pv 4) (pe_callB call_len_seq (by rfl) T.m_len (by decide +kernel) (pa_cons (pv 5) pa_nil)))))))))
    (pss_one
      (ps_ret pe_bl))))), ?_⟩
    refine ⟨_, rfl, D, rfl, ⟨_, .of lD.at_⟩, ?_⟩
    refine for_list (xs := us.map V.ref) (fun j σ H' => ∃ (top : Int) (x5 x6 x7 : Option V), σ = [some (.ref D), some (.int n), some (.ref p), some (.int top), some (.int (lens (data.take j) : Nat)), x5, x6, x7] ∧ Std H H' d g ∧ dueB n data ds 0 = dueB n (data.drop j) (ds.drop (lens (data.take j))) top) ⟨0, _, _, _, rfl, Std.refl hD, rfl⟩ (fun m σ H' _ h => ?_) ?_ ?_
    · obtain ⟨_, _, _, _, _, s, _⟩ := h
      exact .of (lD.keep s.kd).at_
    · rintro j v σ H1 hj ⟨top, x5, x6, x7, rfl, s1, e⟩
      rw [List.getElem?_map] at hj
      obtain ⟨u, hu, rfl⟩ := Option.map_eq_some_iff.mp hj
      have ju := (List.getElem?_eq_some_iff.mp hu).1
      have jd : j < data.length := by rw [← rows.1]; exact ju
      have hx := List.getElem?_eq_getElem jd
      generalize data[j] = x at hx
      have tot := lens_le hx
      obtain ⟨t, r, eu, lt, ⟨as, lr, rl⟩, ok, fw⟩ := (rows.keep hD s1.kd).2 j u x hu hx
      have lp1 := lp.keep s1.kd
      refine ⟨u, _, rfl, .of eu, rfl, _, _, rfl, _, _, rfl, rfl, ?_⟩
      refine ⟨_, rfl, _, rfl, _, rfl, _, rfl, _, rfl, t, _, rfl, .inl (.of lt.at_), _, _, rfl, rfl, _, rfl, p, _, rfl, .of lp1.at_, fun L hL => ?_⟩
      rw [List.length_map, cut_mid ds _ _ (by omega)]
      have y1 := same_upd (o := .lst (((ds.drop (lens (data.take j))).take x.1.length).map V.int)) hL
      have eL := upd_same (H := H1) (a := L) (o := .lst (((ds.drop (lens (data.take j))).take x.1.length).map V.int))
      generalize upd H1 L (.lst (((ds.drop (lens (data.take j))).take x.1.length).map V.int)) = H2 at *
      have pl : ((ds.drop (lens (data.take j))).take x.1.length).length = x.1.length := by
        rw [List.length_take, List.length_drop]; omega
      have p0 := List.length_pos_iff.mpr ok.ne
      have step : data.drop j = x :: data.drop (j + 1) := by
        rw [← (List.getElem?_eq_some_iff.mp hx).2, List.getElem_cons_drop]
      rw [step] at e
      have e' : dueB n data ds 0 = (!(decide (mn ((ds.drop (lens (data.take j))).take x.1.length) ≤ top)) && planB x.1 x.2 n ((ds.drop (lens (data.take j))).take x.1.length) && dueB n (data.drop (j + 1)) ((ds.drop (lens (data.take j))).drop x.1.length) (mx ((ds.drop (lens (data.take j))).take x.1.length))) := e
      generalize hp : (ds.drop (lens (data.take j))).take x.1.length = part at *
      refine ⟨_, rfl, L, part, rfl, .of eL, by omega, fun m1 i1 g1 => ?_⟩
      rw [mn_one i1 g1]
      have s2 := s1.same y1
      refine ⟨_, rfl, _, _, rfl, rfl, _, rfl, ite2 (fun c => ?_) (fun c => ?_)⟩
      · have z : dueB n data ds 0 = false := by
          rw [e', show decide (mn part ≤ top) = true from c]
          rfl
        rw [z] at k
        exact k H2 s2
      have c0 : decide (mn part ≤ top) = false := Bool.eq_false_iff.mpr c
      rw [c0] at e'
      have alen := rl.len
      refine ⟨_, rfl, _, rfl, _, rfl, _, rfl, t, r, L, n, x.1, as, x.2, part, rfl, .of (y1 _ _ lt.at_), .of (y1 _ _ lr.at_), rl.keep (Same.tk y1), .of eL, by omega, by omega, fun H3 y3 => ⟨_, rfl, ?_⟩⟩
      have s3 := s2.same y3
      generalize planB x.1 x.2 n part = B at *
      cases B with
      | false =>
        have z : dueB n data ds 0 = false := by
          rw [e']
          rfl
        rw [z] at k
        exact k H3 s3
      | true =>
        have e4 : dueB n data ds 0 = dueB n (data.drop (j + 1)) ((ds.drop (lens (data.take j))).drop x.1.length) (mx part) := by
          rw [e']
          rfl
        rw [List.drop_drop, ← lens_next hx] at e4
        refine ⟨_, rfl, L, part, rfl, .of (y3 _ _ eL), by omega, fun m2 i2 g2 => ?_⟩
        rw [mx_one i2 g2]
        refine ⟨_, rfl, _, rfl, t, _, rfl, .inl (.of ((y1.trans y3) _ _ lt.at_)), _, _, rfl, rfl, mx part, some (.ref t), some (.ref r), some (.ref L), ?_, s3, e4⟩
        rw [List.length_map, lens_next hx]
        rfl
    · rintro σ H1 ⟨top, x5, x6, x7, rfl, s1, e⟩
      rw [List.length_map, rows.1, List.drop_length] at e
      have e2 : dueB n data ds 0 = true := e
      rw [e2] at k
      exact k H1 s1
/-! ### keeping -/
/-! ### all but some lists stands -/
def Kx (S : List Addr) (H H' : Hp) : Prop := ∀ b o, H b = some o → b ∉ S → H' b = some o
def AllL (S : List Addr) (H : Hp) : Prop := ∀ s ∈ S, ∃ xs, H s = some (.lst xs)
theorem Kx.refl {S : List Addr} (H : Hp) : Kx S H H := fun _ _ e _ => e
theorem Kx.trans {S : List Addr} {H H1 H2 : Hp} (a : Kx S H H1) (b : Kx S H1 H2) : Kx S H H2 := fun x o h n => b x o (a x o h n) n
theorem Same.kx {S : List Addr} {H H' : Hp} (s : Same H H') : Kx S H H' := fun b o e _ => s b o e
theorem Kd.kx {S : List Addr} {d g : Addr} {H H' : Hp} (k : Kd d g H H') (hd : d ∈ S) (hg : g ∈ S) : Kx S H H' := fun b o e n => k b o e (fun z => n (by rw [z]; exact hd)) fun z => n (by rw [z]; exact hg)
theorem kx_upd {S : List Addr} {H : Hp} {p : Addr} {o : HO} (h : p ∈ S) : Kx S H (upd H p o) := fun b u e n => by
  rw [upd_ne fun z => n (by rw [z]; exact h)]
  exact e
theorem Kx.tk {S : List Addr} {H H' : Hp} (k : Kx S H H') (al : AllL S H) : Tk H H' := fun b ys e => k b _ e fun m => by
  obtain ⟨xs, h⟩ := al b m
  rw [h] at e
  cases e
theorem AllL.new {S : List Addr} {H : Hp} {p : Addr} (al : AllL S H) (hp : H p = none) : p ∉ S := fun m => by
  obtain ⟨xs, h⟩ := al p m
  rw [h] at hp
  cases hp
theorem AllL.same {S : List Addr} {H H' : Hp} (al : AllL S H) (s : Same H H') : AllL S H' := fun p m => by
  obtain ⟨xs, h⟩ := al p m
  exact ⟨xs, s _ _ h⟩
structure Ls (S : List Addr) (H : Hp) (p : Addr) (xs : List V) : Prop where
  at_ : H p = some (.lst xs)
  nin : p ∉ S
theorem Ls.kx {S : List Addr} {H H' : Hp} {p : Addr} {xs : List V} (h : Ls S H p xs) (k : Kx S H H') : Ls S H' p xs := ⟨k _ _ h.at_ h.nin, h.nin⟩
theorem Ls.lat {S : List Addr} {H : Hp} {d g p : Addr} {xs : List V} (h : Ls S H p xs) (hd : d ∈ S) (hg : g ∈ S) : Lat H d g p xs := ⟨h.at_, fun z => h.nin (by rw [z]; exact hd), fun z => h.nin (by rw [z]; exact hg)⟩
theorem Ls.new {S : List Addr} {H : Hp} {p : Addr} {xs : List V} (al : AllL S H) (hp : H p = none) : Ls S (upd H p (.lst xs)) p xs := ⟨upd_same, al.new hp⟩
def BkS (C : Addr) (S : List Addr) (H : Hp) (b : Addr) (ts : List Str) (ls : List (List Str)) : Prop := ∃ (dx t r : Addr) (as : List Addr), H b = some (.ins C dx (fl t r)) ∧ Ls S H t (ts.map V.str) ∧ Ls S H r (as.map V.ref) ∧ Rls ts H as ls
theorem BkS.kx {C : Addr} {S : List Addr} {H H' : Hp} {b : Addr} {ts : List Str} {ls : List (List Str)} (h : BkS C S H b ts ls) (al : AllL S H) (k : Kx S H H') : BkS C S H' b ts ls := by
  obtain ⟨dx, t, r, as, h1, h2, h3, h4⟩ := h
  refine ⟨dx, t, r, as, k _ _ h1 fun m => ?_, h2.kx k, h3.kx k, h4.keep (k.tk al)⟩
  obtain ⟨xs, e⟩ := al _ m
  rw [h1] at e
  cases e
theorem BkS.bk {C : Addr} {S : List Addr} {H : Hp} {d g b : Addr} {ts : List Str} {ls : List (List Str)} (h : BkS C S H b ts ls) (hd : d ∈ S) (hg : g ∈ S) : Bk C H d g b ts ls := by
  obtain ⟨dx, t, r, as, h1, h2, h3, h4⟩ := h
  exact ⟨dx, t, r, h1, h2.lat hd hg, as, h3.lat hd hg, h4⟩
def RwS (S : List Addr) (H : Hp) (u : Addr) (ts : List Str) (ls : List (List Str)) : Prop := ∃ (t r : Addr) (as : List Addr), H u = some (.tup [.ref t, .ref r]) ∧ Ls S H t (ts.map V.str) ∧ Ls S H r (as.map V.ref) ∧ Rls ts H as ls
theorem RwS.kx {S : List Addr} {H H' : Hp} {u : Addr} {ts : List Str} {ls : List (List Str)} (h : RwS S H u ts ls) (al : AllL S H) (k : Kx S H H') : RwS S H' u ts ls := by
  obtain ⟨t, r, as, h1, h2, h3, h4⟩ := h
  exact ⟨t, r, as, k.tk al _ _ h1, h2.kx k, h3.kx k, h4.keep (k.tk al)⟩
theorem Deck.all {S : List Addr} {H : Hp} {d g : Addr} (h : Deck H d g) (al : ∀ s ∈ S, s ≠ d → s ≠ g → ∃ xs, H s = some (.lst xs)) : AllL S H := fun s m => by
  obtain ⟨gs, a, n, h1, h2, _⟩ := h
  by_cases e : s = d
  · rw [e]
    exact ⟨_, h1⟩
  · by_cases e2 : s = g
    · rw [e2]
      exact ⟨_, h2⟩
    · exact al s m e e2
theorem Deck.kx {S : List Addr} {H H' : Hp} {d g : Addr} (h : Deck H d g) (k : Kx S H H') (nd : d ∉ S) (ng : g ∉ S) : Deck H' d g := by
  obtain ⟨gs, a, n, h1, h2, h3⟩ := h
  exact ⟨gs, a, n, k _ _ h1 nd, k _ _ h2 ng, h3⟩
/-! ### the law, ahead -/
/-! ### three books after one another -/
theorem map_look : ∀ {ts : List Str} {ds : List Int}, ts.length = ds.length → ts.Nodup → ts.map (look ts ds) = ds
  | [], [], _, _ => rfl
  | [], _ :: _, h, _ => by cases h
  | _ :: _, [], h, _ => by cases h
  | t :: ts, d :: ds, h, nd => by
    obtain ⟨n1, n2⟩ := List.nodup_cons.mp nd
    have e1 : look (t :: ts) (d :: ds) t = d := if_pos rfl
    have e2 : ts.map (look (t :: ts) (d :: ds)) = ts.map (look ts ds) := List.map_congr_left fun z hz => if_neg fun e : t = z => n1 (by rw [e]; exact hz)
    rw [List.map_cons, e1, e2, map_look (Nat.succ.inj h) n2]
def Lt (ts us : List Str) (f : Str → Int) : Prop := ∀ y ∈ ts, ∀ z ∈ us, f y < f z
def kA (ls : List (List Str)) (n : Int) (f : Str → Int) : Bool := ls.all fun l => keptB l n f
theorem kA_app (ls ms : List (List Str)) (n : Int) (f : Str → Int) : kA (ls ++ ms) n f = (kA ls n f && kA ms n f) := List.all_append
theorem kA_prs {ts us : List Str} {n : Int} {f : Str → Int} : kA (prs ts us) n f = true ↔ Lt ts us f := all_prs
theorem kA_turn {ts : List Str} {ls : List (List Str)} {n : Int} {f g : Str → Int} (ok : ∀ l ∈ ls, RuleOk ts l) (hg : ∀ z ∈ ts, g z = n + 1 - f z) : kA (ls.map turn) n g = kA ls n f := by
  unfold kA
  rw [List.all_map]
  exact all_congr fun l hl => kept_turn (ok l hl) hg
theorem Lt_app {a b c : List Str} {f : Str → Int} : Lt (a ++ b) c f ↔ Lt a c f ∧ Lt b c f :=
  ⟨fun h => ⟨fun y hy => h y (List.mem_append_left _ hy), fun y hy => h y (List.mem_append_right _ hy)⟩, fun h y hy => (List.mem_append.mp hy).elim (h.1 y) (h.2 y)⟩
theorem Lt_app2 {a b c : List Str} {f : Str → Int} : Lt a (b ++ c) f ↔ Lt a b f ∧ Lt a c f :=
  ⟨fun h => ⟨fun y hy z hz => h y hy z (List.mem_append_left _ hz), fun y hy z hz => h y hy z (List.mem_append_right _ hz)⟩, fun h y hy z hz => (List.mem_append.mp hz).elim (h.1 y hy z) (h.2 y hy z)⟩
theorem Lt_trans {a b c : List Str} {f : Str → Int} (h1 : Lt a b f) (h2 : Lt b c f) (e : b ≠ []) : Lt a c f := fun y hy z hz => by
  obtain ⟨x, hx⟩ := List.exists_mem_of_ne_nil _ e
  exact Int.lt_trans (h1 y hy x hx) (h2 x hx z hz)
theorem Lt_flip {a b : List Str} {f g : Str → Int} {n : Int} (hg : ∀ z, z ∈ a ∨ z ∈ b → g z = n + 1 - f z) : Lt b a g ↔ Lt a b f := by
  constructor
  · intro h y hy z hz
    have := h z hz y hy
    rw [hg z (.inr hz), hg y (.inl hy)] at this
    omega
  · intro h y hy z hz
    have := h z hz y hy
    rw [hg y (.inr hy), hg z (.inl hz)]
    omega
/-- what three books after one another ask of their days -/
def Asks (t1 t2 t3 : List Str) (l1 l2 l3 : List (List Str)) (n : Int) (f : Str → Int) : Prop := kA l1 n f = true ∧ kA l2 n f = true ∧ kA l3 n f = true ∧ Lt t1 t2 f ∧ Lt t2 t3 f
theorem left_asks {t1 t2 t3 : List Str} {l1 l2 l3 : List (List Str)} {n : Int} {f : Str → Int} (e2 : t2 ≠ []) (ok : ∀ l ∈ (((l1 ++ l2) ++ prs t1 t2) ++ l3) ++ prs (t1 ++ t2) t3, RuleOk ((t1 ++ t2) ++ t3) l) (h : ∀ z ∈ (t1 ++ t2) ++ t3, 1 ≤ f z ∧ f z ≤ n) :
    planB ((t1 ++ t2) ++ t3) ((((l1 ++ l2) ++ prs t1 t2) ++ l3) ++ prs (t1 ++ t2) t3) n (((t1 ++ t2) ++ t3).map f) = true ↔ Asks t1 t2 t3 l1 l2 l3 n f := by
  rw [plan_own ok h, show ((((l1 ++ l2) ++ prs t1 t2) ++ l3) ++ prs (t1 ++ t2) t3).all (fun l => keptB l n f) = kA ((((l1 ++ l2) ++ prs t1 t2) ++ l3) ++ prs (t1 ++ t2) t3) n f from rfl]
  rw [kA_app, kA_app, kA_app, kA_app, Bool.and_eq_true, Bool.and_eq_true, Bool.and_eq_true, Bool.and_eq_true, kA_prs, kA_prs, Lt_app]
  constructor
  · rintro ⟨⟨⟨⟨h1, h2⟩, h3⟩, h4⟩, _, h6⟩
    exact ⟨h1, h2, h4, h3, h6⟩
  · rintro ⟨h1, h2, h4, h3, h6⟩
    exact ⟨⟨⟨⟨h1, h2⟩, h3⟩, h4⟩, Lt_trans h3 h6 e2, h6⟩
theorem right_asks {t1 t2 t3 : List Str} {l1 l2 l3 : List (List Str)} {n : Int} {f : Str → Int} (e2 : t2 ≠ []) (ok : ∀ l ∈ (l1 ++ ((l2 ++ l3) ++ prs t2 t3)) ++ prs t1 (t2 ++ t3), RuleOk (t1 ++ (t2 ++ t3)) l) (h : ∀ z ∈ t1 ++ (t2 ++ t3), 1 ≤ f z ∧ f z ≤ n) :
    planB (t1 ++ (t2 ++ t3)) ((l1 ++ ((l2 ++ l3) ++ prs t2 t3)) ++ prs t1 (t2 ++ t3)) n ((t1 ++ (t2 ++ t3)).map f) = true ↔ Asks t1 t2 t3 l1 l2 l3 n f := by
  rw [plan_own ok h, show ((l1 ++ ((l2 ++ l3) ++ prs t2 t3)) ++ prs t1 (t2 ++ t3)).all (fun l => keptB l n f) = kA ((l1 ++ ((l2 ++ l3) ++ prs t2 t3)) ++ prs t1 (t2 ++ t3)) n f from rfl]
  rw [kA_app, kA_app, kA_app, kA_app, Bool.and_eq_true, Bool.and_eq_true, Bool.and_eq_true, Bool.and_eq_true, kA_prs, kA_prs, Lt_app2]
  constructor
  · rintro ⟨⟨h1, ⟨h2, h4⟩, h6⟩, h3, _⟩
    exact ⟨h1, h2, h4, h3, h6⟩
  · rintro ⟨h1, h2, h4, h3, h6⟩
    exact ⟨⟨h1, ⟨h2, h4⟩, h6⟩, h3, Lt_trans h3 h6 e2⟩
theorem back_asks {t1 t2 t3 : List Str} {l1 l2 l3 : List (List Str)} {n : Int} {f g : Str → Int} (e2 : t2 ≠ []) (o1 : ∀ l ∈ l1, RuleOk t1 l) (o2 : ∀ l ∈ l2, RuleOk t2 l) (o3 : ∀ l ∈ l3, RuleOk t3 l)
    (ok : ∀ l ∈ (((l3.map turn ++ l2.map turn) ++ prs t3 t2) ++ l1.map turn) ++ prs (t3 ++ t2) t1, RuleOk ((t3 ++ t2) ++ t1) l) (h : ∀ z ∈ (t3 ++ t2) ++ t1, 1 ≤ g z ∧ g z ≤ n) (hg : ∀ z ∈ (t3 ++ t2) ++ t1, g z = n + 1 - f z) :
    planB ((t3 ++ t2) ++ t1) ((((l3.map turn ++ l2.map turn) ++ prs t3 t2) ++ l1.map turn) ++ prs (t3 ++ t2) t1) n (((t3 ++ t2) ++ t1).map g) = true ↔ Asks t1 t2 t3 l1 l2 l3 n f := by
  have g1 : ∀ z ∈ t1, g z = n + 1 - f z := fun z hz => hg z (List.mem_append_right _ hz)
  have g2 : ∀ z ∈ t2, g z = n + 1 - f z := fun z hz => hg z (List.mem_append_left _ (List.mem_append_right _ hz))
  have g3 : ∀ z ∈ t3, g z = n + 1 - f z := fun z hz => hg z (List.mem_append_left _ (List.mem_append_left _ hz))
  rw [left_asks e2 ok h]
  unfold Asks
  rw [kA_turn o1 g1, kA_turn o2 g2, kA_turn o3 g3, Lt_flip (a := t2) (b := t3) fun z hz => hz.elim (g2 z) (g3 z), Lt_flip (a := t1) (b := t2) fun z hz => hz.elim (g1 z) (g2 z)]
  constructor
  · rintro ⟨h1, h2, h3, h4, h5⟩
    exact ⟨h3, h2, h1, h5, h4⟩
  · rintro ⟨h1, h2, h3, h4, h5⟩
    exact ⟨h3, h2, h1, h5, h4⟩
theorem mxmn {ts us : List Str} {f : Str → Int} (h1 : ts ≠ []) (h2 : us ≠ []) : (!decide (mn (us.map f) ≤ mx (ts.map f))) = true ↔ Lt ts us f := by
  obtain ⟨i1, b1⟩ := mx_is (xs := ts.map f) (by simpa using h1)
  obtain ⟨i2, b2⟩ := mn_is (xs := us.map f) (by simpa using h2)
  rw [Bool.not_eq_true', decide_eq_false_iff_not]
  constructor
  · intro h y hy z hz
    have := b1 _ (List.mem_map_of_mem (f := f) hy)
    have := b2 _ (List.mem_map_of_mem (f := f) hz)
    omega
  · intro h
    obtain ⟨y, hy, ey⟩ := List.mem_map.mp i1
    obtain ⟨z, hz, ez⟩ := List.mem_map.mp i2
    have := h y hy z hz
    omega
theorem due_asks {t1 t2 t3 : List Str} {l1 l2 l3 : List (List Str)} {n : Int} {f : Str → Int} (e1 : t1 ≠ []) (e2 : t2 ≠ []) (e3 : t3 ≠ []) (o1 : ∀ l ∈ l1, RuleOk t1 l) (o2 : ∀ l ∈ l2, RuleOk t2 l) (o3 : ∀ l ∈ l3, RuleOk t3 l)
    (h : ∀ z ∈ (t1 ++ t2) ++ t3, 1 ≤ f z ∧ f z ≤ n) : dueB n [(t1, l1), (t2, l2), (t3, l3)] (((t1 ++ t2) ++ t3).map f) 0 = true ↔ Asks t1 t2 t3 l1 l2 l3 n f := by
  have h1 : ∀ z ∈ t1, 1 ≤ f z ∧ f z ≤ n := fun z hz => h z (List.mem_append_left _ (List.mem_append_left _ hz))
  have h2 : ∀ z ∈ t2, 1 ≤ f z ∧ f z ≤ n := fun z hz => h z (List.mem_append_left _ (List.mem_append_right _ hz))
  have h3 : ∀ z ∈ t3, 1 ≤ f z ∧ f z ≤ n := fun z hz => h z (List.mem_append_right _ hz)
  have ed : ((t1 ++ t2) ++ t3).map f = t1.map f ++ (t2.map f ++ t3.map f) := by rw [List.append_assoc, List.map_append, List.map_append]
  have k1 : (t1.map f ++ (t2.map f ++ t3.map f)).take t1.length = t1.map f := List.take_left' (by rw [List.length_map])
  have k2 : (t1.map f ++ (t2.map f ++ t3.map f)).drop t1.length = t2.map f ++ t3.map f := List.drop_left' (by rw [List.length_map])
  have k3 : (t2.map f ++ t3.map f).take t2.length = t2.map f := List.take_left' (by rw [List.length_map])
  have k4 : (t2.map f ++ t3.map f).drop t2.length = t3.map f := List.drop_left' (by rw [List.length_map])
  have k5 : (t3.map f).take t3.length = t3.map f := List.take_of_length_le (by rw [List.length_map]; exact Nat.le_refl _)
  have n1 : (!decide (mn (t1.map f) ≤ 0)) = true := by
    obtain ⟨i, _⟩ := mn_is (xs := t1.map f) (by simpa using e1)
    obtain ⟨z, hz, ez⟩ := List.mem_map.mp i
    have := (h1 z hz).1
    rw [Bool.not_eq_true', decide_eq_false_iff_not]
    omega
  rw [ed]
  unfold dueB
  rw [k1, k2]
  unfold dueB
  rw [k3, k4]
  unfold dueB
  rw [k5, n1, Bool.true_and, plan_own o1 h1, plan_own o2 h2, plan_own o3 h3, Bool.and_eq_true, Bool.and_eq_true, Bool.and_eq_true, Bool.and_eq_true, Bool.and_eq_true, mxmn e1 e2, mxmn e2 e3]
  unfold Asks kA dueB
  constructor
  · rintro ⟨h1, ⟨h2, h3⟩, ⟨h4, h5⟩, _⟩
    exact ⟨h1, h3, h5, h2, h4⟩
  · rintro ⟨h1, h3, h5, h2, h4⟩
    exact ⟨h1, ⟨h2, h3⟩, ⟨h4, h5⟩, rfl⟩
theorem eq_asks {a b : Bool} {Z : Prop} (h1 : a = true ↔ Z) (h2 : b = true ↔ Z) : a = b := Bool.eq_iff_iff.mpr (h1.trans h2.symm)
theorem common_nil {ts us : List Str} (h : (ts ++ us).Nodup) : common ts us = [] := List.filter_eq_nil_iff.mpr fun z hz e => (List.nodup_append.mp h).2.2 z (of_decide_eq_true e) z hz rfl
/-- twice the rules, one of them left out -/
theorem plan_twice {ts : List Str} {ls : List (List Str)} {n : Int} {ds : List Int} {i : Nat} (h : i < ls.length) : planB ts ((ls ++ ls).take i ++ (ls ++ ls).drop (i + 1)) n ds = planB ts ls n ds := by
  unfold planB
  congr 1
  rw [Bool.eq_iff_iff, List.all_eq_true, List.all_eq_true]
  constructor
  · intro q l hl
    refine q l (List.mem_append_right _ ?_)
    rw [List.drop_append_of_le_length (by omega)]
    exact List.mem_append_right _ hl
  · intro q l hl
    refine q l ?_
    rcases List.mem_append.mp hl with m | m
    · exact (List.mem_append.mp (List.mem_of_mem_take m)).elim id id
    · exact (List.mem_append.mp (List.mem_of_mem_drop m)).elim id id
theorem dp_bools {H : Hp} : ∀ {bs : List Bool}, DpAll K H (bs.map V.bl) (bs.map PyData.bool)
  | [] => .nil
  | _ :: _ => .cons (.bl _) dp_bools
def bdata (bs : List Bool) : PyData := .list (bs.map PyData.bool)
theorem lay_bools : ∀ bs : List Bool, PyData.canLayAll0 (bs.map PyData.bool) = true
  | [] => rfl
  | b :: r => by
    show (true && PyData.canLayAll0 (r.map PyData.bool)) = true
    rw [lay_bools r]
    rfl
theorem depth_bools : ∀ bs : List Bool, PyData.depthAll (bs.map PyData.bool) ≤ 1
  | [] => by simp [PyData.depthAll]
  | b :: r => by
    have := depth_bools r
    simp only [List.map_cons, PyData.depthAll, PyData.depth]
    omega
theorem bdata_ok (bs : List Bool) : SeqAt.shaped (bdata bs) = true := by
  unfold SeqAt.shaped
  rw [Bool.and_eq_true]
  have h := depth_bools bs
  exact ⟨lay_bools bs, decide_eq_true (by simp only [bdata, PyData.depth]; omega)⟩
theorem uni_self (ts : List Str) : uni ts ts = ts := by
  unfold uni
  have : (ts.filter fun z => decide (z ∉ ts)) = [] := by
    rw [List.filter_eq_nil_iff]
    intro z hz
    simpa using hz
  rw [this, List.append_nil]
theorem ix_look {ts : List Str} {ds : List Int} {z : Str} (hl : ts.length = ds.length) (h : z ∈ ts) : ∃ j : Nat, (ts.map V.str)[j]? = some (V.str z) ∧ (∀ (m : Nat) (z' : V), m < j → (ts.map V.str)[m]? = some z' → eqV z' (V.str z) = false) ∧ (ds.map V.int)[j]? = some (V.int (look ts ds z)) := by
  obtain ⟨j, h1, h2, h3⟩ := find_ix hl h
  refine ⟨j, by rw [List.getElem?_map, h1]; rfl, fun m z' hm e => ?_, by rw [List.getElem?_map, h3]; rfl⟩
  rw [List.getElem?_map] at e
  obtain ⟨y, hy, rfl⟩ := Option.map_eq_some_iff.mp e
  rw [eqV_strs]
  exact decide_eq_false fun x => h2 m hm (x ▸ hy)
theorem flat_rep (x : V) : ∀ m : Nat, (List.replicate m [x]).flatten = List.replicate m x
  | 0 => rfl
  | m + 1 => by rw [List.replicate_succ, List.flatten_cons, flat_rep x m]; rfl
def sp_rows (C : Addr) : Sp := fun vs H Q _ => ∃ (d g B D b1 b2 b3 u1 u2 u3 : Addr) (t1 t2 t3 : List Str) (l1 l2 l3 : List (List Str)), vs = [.ref d, .ref B, .ref D] ∧ Deck H d g ∧ Lat H d g B [.ref b1, .ref b2, .ref b3] ∧ Lat H d g D ([u1, u2, u3].map V.ref) ∧ DataR H d g [u1, u2, u3] [(t1, l1), (t2, l2), (t3, l3)] ∧
  Bk C H d g b1 t1 l1 ∧ Bk C H d g b2 t2 l2 ∧ Bk C H d g b3 t3 l3 ∧ ((t1 ++ t2) ++ t3).Nodup ∧ t1.length + t2.length + t3.length ≤ 7 ∧ ∀ H', Std H H' d g → Q (.bl true) H'
theorem prod7 {a b : Nat} (h1 : a ≤ 7) (h2 : b ≤ 7) : a * b ≤ 49 := Nat.mul_le_mul h1 h2
set_option maxHeartbeats 3200000 in
theorem ok_law_rows_right (T : Tx K w mg) : FnOk P w K mg base CX0 9 T.f_law_rows_right T.d_law_rows_right ["deck", "books", "data"] (sp_rows T.C_Book) := by
  refine T.F_law_rows_right.ok sc_law_rows_right (fun vs H Q E h => ?_) (fun cdv A outer s H vs Q E hr h => ?_)
  · obtain ⟨d, g, B, D, b1, b2, b3, u1, u2, u3, t1, t2, t3, l1, l2, l3, rfl, _⟩ := h
    rfl
  · obtain ⟨d, g, B, D, b1, b2, b3, u1, u2, u3, t1, t2, t3, l1, l2, l3, rfl, hD, lB, lD, rows, A1, A2, A3, nd, few, k⟩ := h
    refine ⟨_,
    (pss_cons
      (ps_asg (pv 1) (pg_unl (by rfl) (pgs_cons (pg_name (i := 3) sc_law_rows_right.nd rfl (.inl rfl)) (pgs_cons (pg_name (i := 4) sc_law_rows_right.nd rfl (.inl rfl)) (pgs_cons (pg_name (i := 5) sc_law_rows_right.nd rfl (.inl rfl)) pgs_nil)))))
    (pss_cons
      (ps_set (i := 6) sc_law_rows_right.nd rfl (.inl rfl) (pe_meth (pe_meth (pv 3) T.cl_Book T.me_Book_then (ok_Book_then T) (hr.mono (by decide)) T.b_Book_then .nil passL (pa_cons (pv 4) pa_nil)) T.cl_Book T.me_Book_then (ok_Book_then T) (hr.mono (by decide)) T.b_Book_then .nil passL (pa_cons (pv 5) pa_nil)))
    (pss_cons
      (ps_set (i := 7) sc_law_rows_right.nd rfl (.inl rfl) (pe_meth (pv 3) T.cl_Book T.me_Book_then (ok_Book_then T) (hr.mono (by decide)) T.b_Book_then .nil passL (pa_cons (pe_meth (pv 4) T.cl_Book T.me_Book_then (ok_Book_then T) (hr.mono (by decide)) T.b_Book_then .nil passL (pa_cons (pv 5) pa_nil)) pa_nil)))
    (pss_cons
      (ps_set (i := 8) sc_law_rows_right.nd rfl (.inl rfl) (pe_meth (pe_meth (pe_meth0 (pv 5) T.cl_Book T.me_Book_turned (ok_Book_turned T) (hr.mono (by decide)) T.b_Book_turned .nil pass0) T.cl_Book T.me_Book_then (ok_Book_then T) (hr.mono (by decide)) T.b_Book_then .nil passL (pa_cons (pe_meth0 (pv 4) T.cl_Book T.me_Book_turned (ok_Book_turned T) (hr.mono (by decide)) T.b_Book_turned .nil pass0) pa_nil)) T.cl_Book T.me_Book_then (ok_Book_then T) (hr.mono (by decide)) T.b_Book_then .nil passL (pa_cons (pe_meth0 (pv 3) T.cl_Book T.me_Book_turned (ok_Book_turned T) (hr.mono (by decide)) T.b_Book_turned .nil pass0) pa_nil)))
    (pss_cons
      (ps_set (i := 9) sc_law_rows_right.nd rfl (.inr rfl) (pe_op op_cat (pe_op op_cat (pe_ix ix_tup (pe_ix ix_list (pv 2) pe_int (fun _ _ => rfl)) pe_int (fun _ _ => rfl)) (pe_ix ix_tup (pe_ix ix_list (pv 2) pe_int (fun _ _ => rfl)) pe_int (fun _ _ => rfl))) (pe_ix ix_tup (pe_ix ix_list (pv 2) pe_int (fun _ _ => rfl)) pe_int (fun _ _ => rfl))))
    (pss_cons
      (ps_for PassesOwn.never rfl (pi_range1 (by rfl) T.m_range (pa_cons pe_int pa_nil)) (pg_name (i := 10) sc_law_rows_right.nd rfl (.inl rfl))
        (pss_cons
          (ps_set (i := 11) sc_law_rows_right.nd rfl (.inr rfl) (pe_call (ok_law_number T) (hr.mono (by decide)) (by rfl) T.g_law_number T.F_law_number.kp T.b_law_number .nil pass0 (pa_cons (pv 0) pa_nil)))
        (pss_cons
          (ps_set (i := 12) sc_law_rows_right.nd rfl (.inl rfl) (pe_call (ok_law_days T) (hr.mono (by decide)) (by rfl) T.g_law_days T.F_law_days.kp T.b_law_days .nil pass0 (pa_cons (pv 0) (pa_cons (pv 11) (pa_cons (pe_callB call_len_seq (by rfl) T.m_len (by decide +kernel) (pa_cons (pv 9) pa_nil)) pa_nil)))))
        (C8.pss_cut
          (ps_if (pt_cmpR op_gt (pe_call (ok_law_draw T) (hr.mono (by decide)) (by rfl) T.g_law_draw T.F_law_draw.kp T.b_law_draw .nil pass0 (pa_cons (pv 0) (pa_cons pe_int pa_nil))) pe_int (nomark _))
            (pss_one
              (ps_set (i := 12) sc_law_rows_right.nd rfl (.inl rfl) (pe_callB cr_sorted (by rfl) T.m_sorted (by decide +kernel) (pa_cons (pv 12) pa_nil))))
            pss_nil)
        (pss_cons
          (ps_set (i := 13) sc_law_rows_right.nd rfl (.inl rfl) (pe_call (ok_law_due T) (hr.mono (by decide)) (by rfl) T.g_law_due T.F_law_due.kp T.b_law_due .nil pass0 (pa_cons (pv 2) (pa_cons (pv 11) (pa_cons (pv 12) pa_nil)))))
        (pss_cons
          (ps_set (i := 14) sc_law_rows_right.nd rfl (.inr rfl) (pe_lc (own := [("day", 16)]) (g := gName 16) rfl sc_law_rows_right.nd (pi_list (pv 12)) (blkOk_by (N := ["deck", "books", "data", "one", "two", "three", "left", "right", "back", "names", "k", "last_day", "days", "due", "turned", "told", "day", "name"]) (sc := defScope s_law_rows_right) (own := [("day", 16)]) (by decide +kernel)) (fun _ _ _ _ _ => (pg_name (i := 16) sc_law_rows_right.nd rfl (.inl rfl))) (fun _ _ _ _ _ => pts_nil) (fun _ _ _ _ _ => (pe_op op_sub (pe_op op_add (pv 11) pe_int) (pv 16)))))
        (pss_cons
          (ps_set (i := 15) sc_law_rows_right.nd rfl (.inl rfl) (pe_lst (pa_cons (pe_meth (pv 6) T.cl_Book T.me_Book_keeps (ok_Book_keeps T) (hr.mono (by decide)) T.b_Book_keeps .nil pass0 (pa_cons (pv 11) (pa_cons (pe_callTy call_list_of (by rfl) T.m_list (by decide +kernel) (pa_cons (pv 12) pa_nil)) pa_nil))) (pa_cons (pe_meth (pv 7) T.cl_Book T.me_Book_keeps (ok_Book_keeps T) (hr.mono (by decide)) T.b_Book_keeps .nil pass0 (pa_cons (pv 11) (pa_cons (pe_callTy call_list_of (by rfl) T.m_list (by decide +kernel) (pa_cons (pv 12) pa_nil)) pa_nil))) pa_nil))))
        (pss_cons
          (ps_expr (pe_bm PySem.F.plainAttrs_list PySem.F.slot_list_append PySem.F.type_list_append mt_append (pv 15) (pa_cons (pe_meth (pe_meth0 (pv 6) T.cl_Book T.me_Book_turned (ok_Book_turned T) (hr.mono (by decide)) T.b_Book_turned .nil pass0) T.cl_Book T.me_Book_keeps (ok_Book_keeps T) (hr.mono (by decide)) T.b_Book_keeps .nil pass0 (pa_cons (pv 11) (pa_cons (pe_callTy call_list_of (by rfl) T.m_list (by decide +kernel) (pa_cons (pv 14) pa_nil)) pa_nil))) pa_nil)))
        (pss_cons
          (ps_expr (pe_bm PySem.F.plainAttrs_list PySem.F.slot_list_append PySem.F.type_list_append mt_append (pv 15) (pa_cons (pe_meth (pv 8) T.cl_Book T.me_Book_keeps (ok_Book_keeps T) (hr.mono (by decide)) T.b_Book_keeps .nil pass0 (pa_cons (pv 11) (pa_cons (pe_lc (own := [("name", 17)]) (g := gName 17) rfl sc_law_rows_right.nd (pi_list (pe_prop (pv 8) T.cl_Book T.pr_Book_tasks (ok_Book_tasks T) (hr.mono (by decide)) T.b_Book_tasks .nil pass0 (by rfl))) (blkOk_by (N := ["deck", "books", "data", "one", "two", "three", "left", "right", "back", "names", "k", "last_day", "days", "due", "turned", "told", "day", "name"]) (sc := defScope s_law_rows_right) (own := [("name", 17)]) (by decide +kernel)) (fun _ _ _ _ _ => (pg_name (i := 17) sc_law_rows_right.nd rfl (.inl rfl))) (fun _ _ _ _ _ => pts_nil) (fun _ _ _ _ _ => (pe_ix (r := rIxL K) ix_list (pv 14) (pe_bmK (K := K) (r := rIndex K) rfl PySem.F.plainAttrs_list PySem.F.slot_list_index PySem.F.type_list_index mt_index (pv 9) (pa_cons (pv 17) pa_nil)) (fun _ _ => rfl)))) pa_nil))) pa_nil)))
        (C8.pss_cut
          (ps_if (pt_cmpR op_le (pe_callB (call_lenOwn T.cl_Book T.me_Book_len (ok_Book_len T) (hr.mono (by decide)) T.b_Book_len) (by rfl) T.m_len (by decide +kernel) (pa_cons (pv 6) pa_nil)) pe_int (nomark _))
            (pss_one
              (ps_expr (pe_bm PySem.F.plainAttrs_list PySem.F.slot_list_append PySem.F.type_list_append mt_append (pv 15) (pa_cons (pe_meth (pe_meth (pe_op (op_andOwn T.sf_Book T.me_Book_and (ok_Book_and T) (hr.mono (by decide)) T.b_Book_and) (pv 6) (pv 6)) T.cl_Book T.me_Book_without (ok_Book_without T) (hr.mono (by decide)) T.b_Book_without .nil pass0 (pa_cons (pe_call (ok_law_draw T) (hr.mono (by decide)) (by rfl) T.g_law_draw T.F_law_draw.kp T.b_law_draw .nil pass0 (pa_cons (pv 0) (pa_cons (pe_callB (call_lenOwn T.cl_Book T.me_Book_len (ok_Book_len T) (hr.mono (by decide)) T.b_Book_len) (by rfl) T.m_len (by decide +kernel) (pa_cons (pv 6) pa_nil)) pa_nil))) pa_nil)) T.cl_Book T.me_Book_keeps (ok_Book_keeps T) (hr.mono (by decide)) T.b_Book_keeps .nil pass0 (pa_cons (pv 11) (pa_cons (pe_callTy call_list_of (by rfl) T.m_list (by decide +kernel) (pa_cons (pv 12) pa_nil)) pa_nil))) pa_nil))))
            pss_nil)
        (pss_one
          (ps_if (pt_cmpR (op_neD hr.units) (pv 15) (pe_op op_rep (pe_lst (pa_cons (pv 13) pa_nil)) (pe_callB call_len_seq (by rfl) T.m_len (by decide +kernel) (pa_cons (pv 15) pa_nil))) (nomark _))
            (pss_one
              (ps_ret pe_bl))
            pss_nil))))))))))))
    (pss_one
      (ps_ret pe_bl)))))))), ?_⟩
    obtain ⟨a1, c1, e1, ld1, ⟨ass1, lr1, rl1⟩, ok1, f1⟩ := rows.2 0 u1 _ rfl rfl
    obtain ⟨a2, c2, e2, ld2, ⟨ass2, lr2, rl2⟩, ok2, f2⟩ := rows.2 1 u2 _ rfl rfl
    obtain ⟨a3, c3, e3, ld3, ⟨ass3, lr3, rl3⟩, ok3, f3⟩ := rows.2 2 u3 _ rfl rfl
    have o1 : ∀ l ∈ l1, RuleOk t1 l := rl1.all
    have o2 : ∀ l ∈ l2, RuleOk t2 l := rl2.all
    have o3 : ∀ l ∈ l3, RuleOk t3 l := rl3.all
    have ok1 : TasksOk t1 := ok1
    have ok2 : TasksOk t2 := ok2
    have ok3 : TasksOk t3 := ok3
    have f1 : l1.length ≤ 8 := f1
    have f2 : l2.length ≤ 8 := f2
    have f3 : l3.length ≤ 8 := f3
    have ld1 : Lat H d g a1 (t1.map V.str) := ld1
    have ld2 : Lat H d g a2 (t2.map V.str) := ld2
    have ld3 : Lat H d g a3 (t3.map V.str) := ld3
    clear rl1 rl2 rl3 lr1 lr2 lr3
    have nd12 : (t1 ++ t2).Nodup := (List.nodup_append.mp nd).1
    have nd23 : (t2 ++ t3).Nodup := by
      rw [List.append_assoc] at nd
      exact (List.nodup_append.mp nd).2.1
    have dis : ∀ y, y ∈ t1 ++ t2 → ∀ z, z ∈ t3 → y ≠ z := (List.nodup_append.mp nd).2.2
    have nd1 : (t1 ++ (t2 ++ t3)).Nodup := by rw [← List.append_assoc]; exact nd
    have nd32 : (t3 ++ t2).Nodup := (List.perm_append_comm.nodup_iff).mp nd23
    have nd321 : ((t3 ++ t2) ++ t1).Nodup := by
      refine ((List.perm_append_comm (l₁ := t1) (l₂ := t3 ++ t2)).nodup_iff).mp ?_
      refine (((List.perm_append_comm (l₁ := t2) (l₂ := t3)).append_left t1).nodup_iff).mp ?_
      exact nd1
    have nc12 : common t1 t2 = [] := common_nil nd12
    have nc123 : common (t1 ++ t2) t3 = [] := common_nil nd
    have nc23 : common t2 t3 = [] := common_nil nd23
    have nc1 : common t1 (t2 ++ t3) = [] := common_nil nd1
    have nc32 : common t3 t2 = [] := common_nil nd32
    have nc321 : common (t3 ++ t2) t1 = [] := common_nil nd321
    have no : ∀ {a b : List Str} {z r} {α : Prop}, common a b = [] → common a b = z :: r → α := fun {a b z r α} n e => by rw [n] at e; cases e
    have ok12 : TasksOk (t1 ++ t2) := by
      rw [← uni_none nc12]
      exact tasks_uni ok1 ok2 (by omega)
    have ok23 : TasksOk (t2 ++ t3) := by
      rw [← uni_none nc23]
      exact tasks_uni ok2 ok3 (by omega)
    have ok32 : TasksOk (t3 ++ t2) := by
      rw [← uni_none nc32]
      exact tasks_uni ok3 ok2 (by omega)
    have okA : TasksOk ((t1 ++ t2) ++ t3) := by
      rw [← uni_none nc123]
      exact tasks_uni ok12 ok3 (by rw [List.length_append]; omega)
    have okB : TasksOk ((t3 ++ t2) ++ t1) := by
      rw [← uni_none nc321]
      exact tasks_uni ok32 ok1 (by rw [List.length_append]; omega)
    have okC : TasksOk (t1 ++ (t2 ++ t3)) := by
      rw [← List.append_assoc]
      exact okA
    have m12 : t1.length * t2.length ≤ 49 := prod7 (by omega) (by omega)
    have m23 : t2.length * t3.length ≤ 49 := prod7 (by omega) (by omega)
    have m32 : t3.length * t2.length ≤ 49 := prod7 (by omega) (by omega)
    have mA : (t1 ++ t2).length * t3.length ≤ 49 := prod7 (by rw [List.length_append]; omega) (by omega)
    have mB : (t3 ++ t2).length * t1.length ≤ 49 := prod7 (by rw [List.length_append]; omega) (by omega)
    have mC : t1.length * (t2 ++ t3).length ≤ 49 := prod7 (by omega) (by rw [List.length_append]; omega)
    obtain ⟨x1, p1, q1, ea1, ka1⟩ := A1.parts (K := K)
    obtain ⟨x2, p2, q2, ea2, ka2⟩ := A2.parts (K := K)
    -- left
    refine ⟨_, rfl, B, _, rfl, .of lB.at_, rfl, _, _, rfl, _, _, rfl, _, _, rfl, rfl, ?_⟩
    refine ⟨_, rfl, b1, x1, _, rfl, ea1, fl_then p1 q1, _, rfl, b1, b2, t1, t2, l1, l2, rfl, ka1, ka2, ok1, ok2, by omega, by omega, by omega, fun _ y dy p q as H1 s1 fp fq ey ep eq rl => ?_, fun z r e => no nc12 e⟩
    have st1 : Std H H1 d g := (Std.refl hD).same s1
    obtain ⟨x3, p3, q3, ea3, ka3⟩ := (A3.keep hD st1.kd).parts (K := K)
    refine ⟨y, dy, _, rfl, ey, fl_then p q, _, rfl, y, b3, t1 ++ t2, t3, (l1 ++ l2) ++ prs t1 t2, l3, rfl, ⟨dy, p, q, as, ey, ep, eq, rl⟩, ka3, ok12, ok3, by rw [List.length_append]; omega, by rw [List.length_append, List.length_append, prs_len]; omega, by omega, fun _ L dL p' q' as' H2 s2 fp' fq' eL ep' eq' rl' => ?_, fun z r e => no nc123 e⟩
    have bL : Bk T.C_Book H2 d g L ((t1 ++ t2) ++ t3) ((((l1 ++ l2) ++ prs t1 t2) ++ l3) ++ prs (t1 ++ t2) t3) := Bk.of st1.dk fp' fq' eL ep' eq' rl'
    have st2 := st1.same s2
    clear rl' eq' ep' eL fp' fq' rl eq ep ey fp fq ka1 ka2 ka3 ea1 ea2 ea3 s1 s2
    -- right
    obtain ⟨x1, p1, q1, ea1, ka1⟩ := (A1.keep hD st2.kd).parts (K := K)
    obtain ⟨x2, p2, q2, ea2, ka2⟩ := (A2.keep hD st2.kd).parts (K := K)
    obtain ⟨x3, p3, q3, ea3, ka3⟩ := (A3.keep hD st2.kd).parts (K := K)
    refine ⟨_, rfl, b1, x1, _, rfl, ea1, fl_then p1 q1, _, rfl, b2, x2, _, rfl, ea2, fl_then p2 q2, _, rfl, b2, b3, t2, t3, l2, l3, rfl, ka2, ka3, ok2, ok3, by omega, by omega, by omega, fun _ y dy p q as H3 s3 fp fq ey ep eq rl => ?_, fun z r e => no nc23 e⟩
    have st3 := st2.same s3
    obtain ⟨_, _, _, _, ka1⟩ := (A1.keep hD st3.kd).parts (K := K)
    refine ⟨b1, y, t1, t2 ++ t3, l1, (l2 ++ l3) ++ prs t2 t3, rfl, ka1, ⟨dy, p, q, as, ey, ep, eq, rl⟩, ok1, ok23, by rw [List.length_append]; omega, by omega, by rw [List.length_append, List.length_append, prs_len]; omega, fun _ R dR p' q' as' H4 s4 fp' fq' eR ep' eq' rl' => ?_, fun z r e => no nc1 e⟩
    have bR : Bk T.C_Book H4 d g R (t1 ++ (t2 ++ t3)) ((l1 ++ ((l2 ++ l3) ++ prs t2 t3)) ++ prs t1 (t2 ++ t3)) := Bk.of st3.dk fp' fq' eR ep' eq' rl'
    have st4 := st3.same s4
    have bL := bL.keep st2.dk (Same.kd (s3.trans s4))
    clear rl' eq' ep' eR fp' fq' rl eq ep ey fp fq ka1 ka2 ka3 ea1 ea2 ea3 s3 s4
    -- back
    obtain ⟨x3, p3, q3, ea3, ka3⟩ := (A3.keep hD st4.kd).parts (K := K)
    refine ⟨_, rfl, b3, x3, _, rfl, ea3, fl_turn p3 q3, b3, t3, l3, rfl, ka3, ok3, by omega, fun y3 d3 p q as H5 s5 fp fq ey ep eq rl => ?_⟩
    have y5 : Bk T.C_Book H5 d g y3 t3 (l3.map turn) := Bk.of st4.dk fp fq ey ep eq rl
    have st5 := st4.same s5
    obtain ⟨x2, p2, q2, ea2, ka2⟩ := (A2.keep hD st5.kd).parts (K := K)
    refine ⟨y3, d3, _, rfl, ey, fl_then p q, _, rfl, b2, x2, _, rfl, ea2, fl_turn p2 q2, b2, t2, l2, rfl, ka2, ok2, by omega, fun y2 d2 p q as H6 s6 fp fq ey ep eq rl => ?_⟩
    have st6 := st5.same s6
    obtain ⟨_, _, _, _, k5⟩ := (y5.keep st5.dk (Same.kd s6)).parts (K := K)
    refine ⟨y3, y2, t3, t2, l3.map turn, l2.map turn, rfl, k5, ⟨d2, p, q, as, ey, ep, eq, rl⟩, ok3, ok2, by omega, by rw [List.length_map]; omega, by rw [List.length_map]; omega, fun _ y dy p q as H7 s7 fp fq ey ep eq rl => ?_, fun z r e => no nc32 e⟩
    have y7 : Bk T.C_Book H7 d g y (t3 ++ t2) ((l3.map turn ++ l2.map turn) ++ prs t3 t2) := Bk.of st6.dk fp fq ey ep eq rl
    have st7 := st6.same s7
    obtain ⟨x1, p1, q1, ea1, ka1⟩ := (A1.keep hD st7.kd).parts (K := K)
    refine ⟨y, dy, _, rfl, ey, fl_then p q, _, rfl, b1, x1, _, rfl, ea1, fl_turn p1 q1, b1, t1, l1, rfl, ka1, ok1, by omega, fun y1 d1 p q as H8 s8 fp fq ey ep eq rl => ?_⟩
    have st8 := st7.same s8
    obtain ⟨_, _, _, _, k7⟩ := (y7.keep st7.dk (Same.kd s8)).parts (K := K)
    refine ⟨y, y1, t3 ++ t2, t1, (l3.map turn ++ l2.map turn) ++ prs t3 t2, l1.map turn, rfl, k7, ⟨d1, p, q, as, ey, ep, eq, rl⟩, ok32, ok1, by rw [List.length_append]; omega, by rw [List.length_append, List.length_append, prs_len, List.length_map, List.length_map]; omega, by rw [List.length_map]; omega, fun _ Z dZ p q as H9 s9 fp fq ey ep eq rl => ?_, fun z r e => no nc321 e⟩
    have bZ : Bk T.C_Book H9 d g Z ((t3 ++ t2) ++ t1) ((((l3.map turn ++ l2.map turn) ++ prs t3 t2) ++ l1.map turn) ++ prs (t3 ++ t2) t1) := Bk.of st8.dk fp fq ey ep eq rl
    have st9 := st8.same s9
    have s49 := (((s5.trans s6).trans s7).trans s8).trans s9
    have bL := bL.keep st4.dk (Same.kd s49)
    have bR := bR.keep st4.dk (Same.kd s49)
    clear rl eq ep ey fp fq ka1 ka2 ka3 ea1 ea2 ea3 s5 s6 s7 s8 s9 k5 k7 y5 y7 s49 st1 st2 st3 st4 st5 st6 st7 st8
    have rows := rows.keep hD st9.kd
    have lD := lD.keep st9.kd
    have e1 := Kd.tk st9.kd hD _ _ e1
    have e2 := Kd.tk st9.kd hD _ _ e2
    have e3 := Kd.tk st9.kd hD _ _ e3
    have ld1 := ld1.keep st9.kd
    have ld2 := ld2.keep st9.kd
    have ld3 := ld3.keep st9.kd
    -- names
    refine ⟨_, rfl, D, _, _, V.ref u1, rfl, rfl, .of lD.at_, atI_nat (j := 0) rfl, u1, _, _, V.ref a1, rfl, rfl, .of e1, atI_nat (j := 0) rfl, _, rfl, D, _, _, V.ref u2, rfl, rfl, .of lD.at_, atI_nat (j := 1) rfl, u2, _, _, V.ref a2, rfl, rfl, .of e2, atI_nat (j := 0) rfl, a1, a2, _, _, rfl, rfl, ld1.at_, ld2.at_, ?_, fun N0 hN0 => ?_⟩
    · rw [List.length_map, List.length_map]; exact Nat.le_of_lt (small1000 (by omega))
    have hD9 := st9.dk
    have s10 : Std H9 (upd H9 N0 (.lst (t1.map V.str ++ t2.map V.str))) d g := (Std.refl hD9).new hN0
    have eN0 := upd_same (H := H9) (a := N0) (o := .lst (t1.map V.str ++ t2.map V.str))
    generalize upd H9 N0 (.lst (t1.map V.str ++ t2.map V.str)) = H10 at *
    refine ⟨_, rfl, D, _, _, V.ref u3, rfl, rfl, .of (lD.keep s10.kd).at_, atI_nat (j := 2) rfl, u3, _, _, V.ref a3, rfl, rfl, .of (Kd.tk s10.kd hD9 _ _ e3), atI_nat (j := 0) rfl, N0, a3, _, _, rfl, rfl, eN0, (ld3.keep s10.kd).at_, ?_, fun N hN => ?_⟩
    · rw [List.length_append, List.length_map, List.length_map, List.length_map]; exact Nat.le_of_lt (small1000 (by omega))
    have s11 := s10.new (o := .lst (t1.map V.str ++ t2.map V.str ++ t3.map V.str)) hN
    have lN : Lat (upd H10 N (.lst (t1.map V.str ++ t2.map V.str ++ t3.map V.str))) d g N (((t1 ++ t2) ++ t3).map V.str) := by
      rw [List.map_append, List.map_append]
      exact Lat.new s10.dk hN
    generalize upd H10 N (.lst (t1.map V.str ++ t2.map V.str ++ t3.map V.str)) = H11 at *
    have bL := bL.keep hD9 s11.kd
    have bR := bR.keep hD9 s11.kd
    have bZ := bZ.keep hD9 s11.kd
    have rows := rows.keep hD9 s11.kd
    have lD := lD.keep s11.kd
    have st11 := st9.trans s11
    have hD11 := s11.dk
    clear ld1 ld2 ld3 e1 e2 e3 eN0 hN0 hN s10 s11 hD9 st9
    have nl : ((t1 ++ t2) ++ t3).length = t1.length + t2.length + t3.length := by rw [List.length_append, List.length_append]
    have okL : ∀ l ∈ (((l1 ++ l2) ++ prs t1 t2) ++ l3) ++ prs (t1 ++ t2) t3, RuleOk ((t1 ++ t2) ++ t3) l := by
      obtain ⟨_, _, _, _, _, _, _, r⟩ := bL
      exact r.all
    have okR : ∀ l ∈ (l1 ++ ((l2 ++ l3) ++ prs t2 t3)) ++ prs t1 (t2 ++ t3), RuleOk (t1 ++ (t2 ++ t3)) l := by
      obtain ⟨_, _, _, _, _, _, _, r⟩ := bR
      exact r.all
    have okZ : ∀ l ∈ (((l3.map turn ++ l2.map turn) ++ prs t3 t2) ++ l1.map turn) ++ prs (t3 ++ t2) t1, RuleOk ((t3 ++ t2) ++ t1) l := by
      obtain ⟨_, _, _, _, _, _, _, r⟩ := bZ
      exact r.all
    have lenL : ((((l1 ++ l2) ++ prs t1 t2) ++ l3) ++ prs (t1 ++ t2) t3).length ≤ 200 := by
      rw [List.length_append, List.length_append, List.length_append, List.length_append, prs_len, prs_len]; omega
    have posL : 0 < ((((l1 ++ l2) ++ prs t1 t2) ++ l3) ++ prs (t1 ++ t2) t3).length := by
      have h1 := List.length_pos_iff.mpr ok1.ne
      have h2 := List.length_pos_iff.mpr ok2.ne
      have h3 := Nat.mul_pos h1 h2
      rw [List.length_append, List.length_append, List.length_append, List.length_append, prs_len, prs_len]; omega
    have lenR : ((l1 ++ ((l2 ++ l3) ++ prs t2 t3)) ++ prs t1 (t2 ++ t3)).length ≤ 200 := by
      rw [List.length_append, List.length_append, List.length_append, List.length_append, prs_len, prs_len]; omega
    have lenZ : ((((l3.map turn ++ l2.map turn) ++ prs t3 t2) ++ l1.map turn) ++ prs (t3 ++ t2) t1).length ≤ 200 := by
      rw [List.length_append, List.length_append, List.length_append, List.length_append, prs_len, prs_len, List.length_map, List.length_map, List.length_map]; omega
    have tR : ((t1 ++ t2) ++ t3) = t1 ++ (t2 ++ t3) := List.append_assoc _ _ _
    have inZ : ∀ z ∈ (t3 ++ t2) ++ t1, z ∈ (t1 ++ t2) ++ t3 := fun z hz => by
      rw [List.mem_append, List.mem_append] at hz ⊢
      rcases hz with (h | h) | h
      · exact .inr h
      · exact .inl (.inr h)
      · exact .inl (.inl h)
    have HL := fun (n : Int) (f : Str → Int) => left_asks (n := n) (f := f) ok2.ne okL
    have HR := fun (n : Int) (f : Str → Int) => right_asks (n := n) (f := f) ok2.ne okR
    have HZ := fun (n : Int) (f g : Str → Int) => back_asks (n := n) (f := f) (g := g) ok2.ne o1 o2 o3 okZ
    have HU := fun (n : Int) (f : Str → Int) => due_asks (n := n) (f := f) ok1.ne ok2.ne ok3.ne o1 o2 o3
    rw [← tR] at HR okR bR
    generalize (((l1 ++ l2) ++ prs t1 t2) ++ l3) ++ prs (t1 ++ t2) t3 = RL at *
    generalize (l1 ++ ((l2 ++ l3) ++ prs t2 t3)) ++ prs t1 (t2 ++ t3) = RR at *
    generalize (((l3.map turn ++ l2.map turn) ++ prs t3 t2) ++ l1.map turn) ++ prs (t3 ++ t2) t1 = RZ at *
    have zl : ((t3 ++ t2) ++ t1).length ≤ 7 := by rw [List.length_append, List.length_append]; omega
    generalize hTZ : (t3 ++ t2) ++ t1 = TZ at *
    have ndT := nd
    generalize hTT : (t1 ++ t2) ++ t3 = TT at *
    refine ⟨6, rfl, by decide, by decide, for_range (n := 6) (fun i σ H' => ∃ x10 x11 x12 x13 x14 x15 x16 x17, σ = [some (.ref d), some (.ref B), some (.ref D), some (.ref b1), some (.ref b2), some (.ref b3), some (.ref L), some (.ref R), some (.ref Z), some (.ref N), x10, x11, x12, x13, x14, x15, x16, x17] ∧ Std H11 H' d g) ⟨_, _, _, _, _, _, _, _, rfl, Std.refl hD11⟩ ?_ ?_⟩
    · rintro i σ H0 _ ⟨x10, x11, x12, x13, x14, x15, x16, x17, rfl, s0⟩
      refine ⟨_, rfl, d, g, rfl, s0.dk, fun last H1 la0 la1 s1 => ?_⟩
      have s01 := s0.trans s1
      refine ⟨_, rfl, _, rfl, _, rfl, N, _, rfl, .inl (.of (lN.keep s01.kd).at_), d, g, last, _, rfl, s01.dk, la0, ?_, fun q ds H2 s2 fq lq dl dd => ?_⟩
      · rw [List.length_map]; omega
      rw [List.length_map] at dl
      have s02 := s01.trans s2
      clear s0 s1 s01 s2 fq
      -- sorted
      refine ⟨fun σ' H' => ∃ (q : Addr) (ds : List Int), σ' = [some (.ref d), some (.ref B), some (.ref D), some (.ref b1), some (.ref b2), some (.ref b3), some (.ref L), some (.ref R), some (.ref Z), some (.ref N), some (.int (0 + (i : Int))), some (.int last), some (.ref q), x13, x14, x15, x16, x17] ∧ Std H11 H' d g ∧ Lat H' d g q (ds.map V.int) ∧ ds.length = TT.length ∧ (∀ x ∈ ds, 1 ≤ x ∧ x ≤ last), ?_, ?_⟩
      · refine ⟨_, rfl, d, g, 3, rfl, s02.dk, by decide, by decide +kernel, fun e H3 e0 e1 hD3 k3 => ⟨_, _, rfl, rfl, _, rfl, ?_⟩⟩
        have s03 := s02.draw hD3 k3
        refine ite2 (fun c => ?_) (fun c => ⟨q, ds, rfl, s03, lq.keep k3, dl, dd⟩)
        exact ⟨_, rfl, q, ds, rfl, .of (lq.keep k3).at_, by omega, fun es p pm pw hp => ⟨p, es, rfl, s03.new hp, Lat.new hD3 hp, pm.length_eq.trans dl, fun x hx => dd x (pm.mem_iff.mp hx)⟩⟩
      clear lq dl dd s02
      clear q ds H1 H2
      rintro σ H3 ⟨q, ds, rfl, s3, lq, dl, dd⟩
      -- due
      refine ⟨_, rfl, _, rfl, _, rfl, d, g, D, q, last, [u1, u2, u3], [(t1, l1), (t2, l2), (t3, l3)], ds, rfl, s3.dk, lD.keep s3.kd, rows.keep hD11 s3.kd, lq, ?_, by omega, fun H4 s4 => ?_⟩
      · show ds.length = t1.length + (t2.length + (t3.length + 0))
        omega
      have eds : TT.map (look TT ds) = ds := map_look dl.symm ndT
      have rg : ∀ z ∈ TT, 1 ≤ look TT ds z ∧ look TT ds z ≤ last := fun z hz => dd _ (look_mem dl.symm hz)
      have gZ : ∀ z ∈ TZ, last + 1 - look TT ds z = last + 1 - look TT ds z := fun z _ => rfl
      have hL := HL last (look TT ds) rg
      have hR := HR last (look TT ds) rg
      have hZ := HZ last (look TT ds) (fun z => last + 1 - look TT ds z) (fun z hz => by
        have := rg z (inZ z hz)
        show 1 ≤ last + 1 - look TT ds z ∧ last + 1 - look TT ds z ≤ last
        omega) (fun z _ => rfl)
      have hU := HU last (look TT ds)
      have hU := hU rg
      rw [eds] at hL hR hU
      have hL := eq_asks hL hU
      have hR := eq_asks hR hU
      have hZ := eq_asks hZ hU
      have hT : planB TT (RL.map turn) last (ds.map fun d => last + 1 - d) = dueB last [(t1, l1), (t2, l2), (t3, l3)] ds 0 := (plan_turn okL).trans hL
      clear hU rg
      generalize dueB last [(t1, l1), (t2, l2), (t3, l3)] ds 0 = due at *
      have s04 := s3.trans s4
      have lq := lq.keep s4.kd
      clear s3 s4
      -- turned
      refine ⟨_, rfl, q, rfl, ⟨_, .of lq.at_⟩, fun M hM => ?_⟩
      have dM := s04.dk.new hM
      refine lc_list (xs := ds.map V.int) (fun i H' => H' M = some (.lst (((ds.take i).map fun d => last + 1 - d).map V.int)) ∧ Same H4 H') ⟨upd_same, same_upd hM⟩ (fun i H' _ h => .of (h.2 _ _ lq.at_)) ?_ ?_
      · rintro i v H7 hi ⟨eM, s7⟩
        have hil := (List.getElem?_eq_some_iff.mp hi).1
        rw [List.length_map] at hil
        rw [List.getElem?_map] at hi
        obtain ⟨e, he, rfl⟩ := Option.map_eq_some_iff.mp hi
        refine ⟨rfl, _, rfl, _, _, rfl, rfl, _, rfl, _, _, rfl, rfl, _, eM, ?_, ?_, fun b o e => ?_⟩
        · rw [List.length_map, List.length_map, List.length_take]; exact small1000 (by omega)
        · rw [upd_same, List.take_add_one, he, List.map_append, List.map_append]
          rfl
        · rw [upd_ne (ne_of_none e hM)]
          exact s7 b o e
      rintro H5 ⟨eM, s5⟩
      rw [List.length_map, List.take_length] at eM
      have lM : Lat H5 d g M ((ds.map fun d => last + 1 - d).map V.int) := ⟨eM, dM.1, dM.2⟩
      have lq := lq.keep (Same.kd s5)
      have s05 := s04.same s5
      clear eM dM hM s5 s04
      -- told: left, right
      obtain ⟨xL, pL, qL, eL, kL⟩ := (bL.keep hD11 s05.kd).parts (K := K)
      refine ⟨_, rfl, L, xL, _, rfl, eL, fl_keeps pL qL, _, rfl, _, rfl, q, _, rfl, .inl (.of lq.at_), fun q1 hq1 => ?_⟩
      have y1 := same_upd (o := .lst (ds.map V.int)) hq1
      have eq1 := upd_same (H := H5) (a := q1) (o := .lst (ds.map V.int))
      generalize upd H5 q1 (.lst (ds.map V.int)) = H6 at *
      have s06 := s05.same y1
      obtain ⟨_, _, _, _, kL⟩ := (bL.keep hD11 s06.kd).parts (K := K)
      refine ⟨L, q1, last, TT, RL, ds, rfl, kL, .of eq1, ndT, by omega, by omega, by omega, fun H7 y2 => ?_⟩
      have s07 := s06.same y2
      obtain ⟨xR, pR, qR, eR, kR⟩ := (bR.keep hD11 s07.kd).parts (K := K)
      have lq := lq.keep (Same.kd (y1.trans y2))
      have lM := lM.keep (Same.kd (y1.trans y2))
      clear eq1 hq1 y1 y2 kL eL s05 s06
      refine ⟨_, rfl, R, xR, _, rfl, eR, fl_keeps pR qR, _, rfl, _, rfl, q, _, rfl, .inl (.of lq.at_), fun q1 hq1 => ?_⟩
      have y1 := same_upd (o := .lst (ds.map V.int)) hq1
      have eq1 := upd_same (H := H7) (a := q1) (o := .lst (ds.map V.int))
      generalize upd H7 q1 (.lst (ds.map V.int)) = H8 at *
      have s08 := s07.same y1
      obtain ⟨_, _, _, _, kR⟩ := (bR.keep hD11 s08.kd).parts (K := K)
      refine ⟨R, q1, last, TT, RR, ds, rfl, kR, .of eq1, ndT, by omega, by omega, by omega, fun H9 y2 => ?_⟩
      rw [hL, hR]
      have s09 := s08.same y2
      have lq := lq.keep (Same.kd (y1.trans y2))
      have lM := lM.keep (Same.kd (y1.trans y2))
      clear eq1 hq1 y1 y2 kR eR s07 s08
      refine ⟨(by show 2 ≤ sizeLine; decide), fun U hU => ?_⟩
      have lU : Lat (upd H9 U (.lst [V.bl due, V.bl due])) d g U ((List.replicate 2 due).map V.bl) := Lat.new s09.dk hU
      have y1 := same_upd (o := .lst [V.bl due, V.bl due]) hU
      have nU := s09.free hU
      have Uq : U ≠ q := (ne_of_none lq.at_ hU).symm
      have UM : U ≠ M := (ne_of_none lM.at_ hU).symm
      have s10 := s09.same y1
      have lq := lq.keep (Same.kd y1)
      have lM := lM.keep (Same.kd y1)
      generalize upd H9 U (.lst [V.bl due, V.bl due]) = H10 at *
      have n1 := lU.nd
      have n2 := lU.ng
      clear y1 s09 hU
      -- turned
      obtain ⟨xL, pL, qL, eL, kL⟩ := (bL.keep hD11 s10.kd).parts (K := K)
      refine ⟨_, rfl, .inl ⟨rfl, _, .of lU.at_⟩, _, rfl, L, xL, _, rfl, eL, fl_turn pL qL, L, TT, RL, rfl, kL, okA, by omega, fun y yx p q' as H12 s12 fp fq ey ep eq rl => ?_⟩
      have y12 : Bk T.C_Book H12 d g y TT (RL.map turn) := Bk.of s10.dk fp fq ey ep eq rl
      have lM := lM.keep (Same.kd s12)
      have lq := lq.keep (Same.kd s12)
      have lU := lU.keep (Same.kd s12)
      have s12 := s10.same s12
      refine ⟨y, yx, _, rfl, ey, fl_keeps p q', _, rfl, _, rfl, M, _, rfl, .inl (.of lM.at_), fun q1 hq1 => ?_⟩
      have y1 := same_upd (o := .lst ((ds.map fun d => last + 1 - d).map V.int)) hq1
      have eq1 := upd_same (H := H12) (a := q1) (o := .lst ((ds.map fun d => last + 1 - d).map V.int))
      generalize upd H12 q1 (.lst ((ds.map fun d => last + 1 - d).map V.int)) = H13 at *
      obtain ⟨_, _, _, _, ky⟩ := (y12.keep s12.dk (Same.kd y1)).parts (K := K)
      refine ⟨y, q1, last, TT, RL.map turn, ds.map fun d => last + 1 - d, rfl, ky, .of eq1, ndT, by omega, by rw [List.length_map]; omega, by rw [List.length_map]; omega, fun H14 y2 => ?_⟩
      rw [hT]
      have lM := lM.keep (Same.kd (y1.trans y2))
      have lq := lq.keep (Same.kd (y1.trans y2))
      have lU := lU.keep (Same.kd (y1.trans y2))
      have s14 := s12.same (y1.trans y2)
      clear ky eq1 hq1 y1 y2 y12 rl eq ep ey fp fq s12 s10 kL eL
      refine ⟨U, _, _, rfl, rfl, lU.at_, ?_, ?_⟩
      · rw [List.length_map, List.length_replicate]; exact small1000 (by omega)
      have s15 : Std H11 (upd H14 U (.lst ((List.replicate 2 due).map V.bl ++ [V.bl due]))) d g := s14.mut nU n1 n2
      have lU : Lat (upd H14 U (.lst ((List.replicate 2 due).map V.bl ++ [V.bl due]))) d g U ((List.replicate 3 due).map V.bl) := ⟨upd_same, n1, n2⟩
      have lM : Lat (upd H14 U (.lst ((List.replicate 2 due).map V.bl ++ [V.bl due]))) d g M ((ds.map fun d => last + 1 - d).map V.int) := ⟨by rw [upd_ne UM.symm]; exact lM.at_, lM.nd, lM.ng⟩
      have lq : Lat (upd H14 U (.lst ((List.replicate 2 due).map V.bl ++ [V.bl due]))) d g q (ds.map V.int) := ⟨by rw [upd_ne Uq.symm]; exact lq.at_, lq.nd, lq.ng⟩
      generalize upd H14 U (.lst ((List.replicate 2 due).map V.bl ++ [V.bl due])) = H15 at *
      clear s14
      -- back
      obtain ⟨xZ, pZ, qZ, eZ, kZ⟩ := (bZ.keep hD11 s15.kd).parts (K := K)
      have lZ := ((bZ.keep hD11 s15.kd).parts_at eZ).2.2
      refine ⟨_, rfl, .inl ⟨rfl, _, .of lU.at_⟩, _, rfl, Z, xZ, _, rfl, eZ, fl_keeps pZ qZ, _, rfl, _, rfl, Z, xZ, _, rfl, eZ, Z, xZ, pZ, qZ, pZ, _, rfl, eZ, fl_t pZ qZ, .of lZ.at_, fun W hW => ⟨W, rfl, ⟨_, .of upd_same⟩, ?_⟩⟩
      have y1 := same_upd (o := .lst (TZ.map V.str)) hW
      have eW := upd_same (H := H15) (a := W) (o := .lst (TZ.map V.str))
      generalize upd H15 W (.lst (TZ.map V.str)) = H16 at *
      refine fun D2 hD2 => ?_
      have lN16 := lN.keep (s15.same y1).kd
      have lM16 := lM.keep (Same.kd y1)
      refine lc_list (xs := TZ.map V.str) (fun j H' => H' D2 = some (.lst (((TZ.take j).map (look TT (ds.map fun d => last + 1 - d))).map V.int)) ∧ Same H16 H') ⟨upd_same, same_upd hD2⟩ (fun j H' _ h => .of (h.2 _ _ eW)) ?_ ?_
      · rintro j v H17 hj ⟨e17, s17⟩
        have hjl := (List.getElem?_eq_some_iff.mp hj).1
        rw [List.length_map] at hjl
        rw [List.getElem?_map] at hj
        obtain ⟨z, hz, rfl⟩ := Option.map_eq_some_iff.mp hj
        obtain ⟨m, m1, m2, m3⟩ := ix_look (ds := ds.map fun d => last + 1 - d) (by rw [List.length_map]; exact dl.symm) (inZ z (List.mem_of_getElem? hz))
        refine ⟨rfl, _, rfl, _, rfl, .inl ⟨rfl, _, .of (s17 _ _ lN16.at_)⟩, _, rfl, N, _, V.str z, m, _, rfl, rfl, .of (s17 _ _ lN16.at_), rfl, flat_strs _, m1, (by rw [eqV_strs]; exact decide_eq_true rfl), m2, M, _, _, _, rfl, rfl, .of (s17 _ _ lM16.at_), atI_nat m3, _, e17, ?_, ?_, fun b o e => ?_⟩
        · rw [List.length_map, List.length_map, List.length_take]; exact small1000 (by omega)
        · rw [upd_same, List.take_add_one, hz, List.map_append, List.map_append]
          rfl
        · rw [upd_ne (ne_of_none e hD2)]
          exact s17 b o e
      rintro H17 ⟨e17, s17⟩
      rw [List.length_map, List.take_length] at e17
      have eG : TZ.map (look TT (ds.map fun d => last + 1 - d)) = TZ.map fun z => last + 1 - look TT ds z := List.map_congr_left fun z hz => look_flip dl.symm (inZ z hz)
      rw [eG] at e17
      obtain ⟨_, _, _, _, kZ⟩ := (bZ.keep hD11 ((s15.same y1).same s17).kd).parts (K := K)
      refine ⟨Z, D2, last, TZ, RZ, TZ.map fun z => last + 1 - look TT ds z, rfl, kZ, .of e17, nd321, by omega, by omega, by rw [List.length_map]; omega, fun H18 y2 => ?_⟩
      rw [hZ]
      have y12 := (y1.trans s17).trans y2
      have lq := lq.keep (Same.kd y12)
      have lU := lU.keep (Same.kd y12)
      have s18 := s15.same y12
      clear y12 y2 kZ eG e17 s17 lN16 lM16 hD2 eW y1 hW lZ eZ s15 lM
      refine ⟨U, _, _, rfl, rfl, lU.at_, ?_, ?_⟩
      · rw [List.length_map, List.length_replicate]; exact small1000 (by omega)
      have s19 : Std H11 (upd H18 U (.lst ((List.replicate 3 due).map V.bl ++ [V.bl due]))) d g := s18.mut nU n1 n2
      have lU : Lat (upd H18 U (.lst ((List.replicate 3 due).map V.bl ++ [V.bl due]))) d g U ((List.replicate 4 due).map V.bl) := ⟨upd_same, n1, n2⟩
      have lq : Lat (upd H18 U (.lst ((List.replicate 3 due).map V.bl ++ [V.bl due]))) d g q (ds.map V.int) := ⟨by rw [upd_ne Uq.symm]; exact lq.at_, lq.nd, lq.ng⟩
      generalize upd H18 U (.lst ((List.replicate 3 due).map V.bl ++ [V.bl due])) = H19 at *
      clear s18
      -- twice
      refine ⟨fun σ' H' => ∃ (m : Nat) (x16 x17 : Option V), σ' = [some (.ref d), some (.ref B), some (.ref D), some (.ref b1), some (.ref b2), some (.ref b3), some (.ref L), some (.ref R), some (.ref Z), some (.ref N), some (.int (0 + (i : Int))), some (.int last), some (.ref q), some (.bl due), some (.ref M), some (.ref U), x16, x17] ∧ Std H11 H' d g ∧ Lat H' d g U ((List.replicate m due).map V.bl) ∧ m ≤ 5, ?_, ?_⟩
      · obtain ⟨xL, pL, qL, eL, kL⟩ := (bL.keep hD11 s19.kd).parts (K := K)
        obtain ⟨as, la, na⟩ := (bL.keep hD11 s19.kd).rules_at eL
        refine ⟨_, rfl, L, xL, _, rfl, eL, L, xL, pL, qL, _, rfl, eL, .of la.at_, _, rfl, ?_⟩
        refine ⟨by omega, ?_, _, _, rfl, rfl, _, rfl, ite2 (fun c => ?_) (fun c => ⟨4, x16, x17, rfl, s19, lU, by omega⟩)⟩
        · rw [List.length_map]; omega
        refine ⟨_, rfl, .inl ⟨rfl, _, .of lU.at_⟩, _, rfl, _, rfl, L, L, xL, xL, _, _, rfl, rfl, eL, eL, L, L, TT, TT, RL, RL, rfl, kL, kL, okA, okA, by omega, by omega, by omega, fun y dy p q' bs H20 z1 fp fq ey ep eq rl => ?_⟩
        rw [uni_self] at ep rl
        have lq := lq.keep (Same.kd z1)
        have lU := lU.keep (Same.kd z1)
        have s20 := s19.same z1
        obtain ⟨xL, pL, qL, eL, kL⟩ := (bL.keep hD11 s20.kd).parts (K := K)
        obtain ⟨as, la, na⟩ := (bL.keep hD11 s20.kd).rules_at eL
        have y20 : Bk T.C_Book H20 d g y TT (RL ++ RL) := Bk.of s19.dk fp fq ey ep eq rl
        refine ⟨y, dy, _, rfl, ey, fl_wout p q', _, rfl, _, rfl, L, xL, _, rfl, eL, L, xL, pL, qL, _, rfl, eL, .of la.at_, _, rfl, by omega, ?_, d, g, _, rfl, s20.dk, ?_, ?_, fun e H21 e0 e1 hD21 k21 => ?_⟩
        · rw [List.length_map]; omega
        · rw [List.length_map]; omega
        · rw [List.length_map]; exact small_log (by omega)
        obtain ⟨e, rfl⟩ := Int.eq_ofNat_of_zero_le e0
        have ei : e < RL.length := by
          rw [List.length_map, na] at e1
          omega
        have s21 := s20.draw hD21 k21
        have lq := lq.keep k21
        have lU := lU.keep k21
        obtain ⟨_, _, _, _, k21'⟩ := (y20.keep s20.dk k21).parts (K := K)
        refine ⟨y, e, TT, RL ++ RL, rfl, k21', okA, by rw [List.length_append]; omega, by rw [List.length_append]; omega, fun v dv p q' cs H22 z2 fp fq ev ep eq rl => ?_⟩
        have lq := lq.keep (Same.kd z2)
        have lU := lU.keep (Same.kd z2)
        have v22 := Bk.of s21.dk fp fq ev ep eq rl
        have s22 := s21.same z2
        refine ⟨v, dv, _, rfl, ev, fl_keeps p q', _, rfl, _, rfl, q, _, rfl, .inl (.of lq.at_), fun q1 hq1 => ?_⟩
        have y1 := same_upd (o := .lst (ds.map V.int)) hq1
        have eq1 := upd_same (H := H22) (a := q1) (o := .lst (ds.map V.int))
        generalize upd H22 q1 (.lst (ds.map V.int)) = H23 at *
        obtain ⟨_, _, _, _, kv⟩ := (v22.keep s22.dk (Same.kd y1)).parts (K := K)
        refine ⟨v, q1, last, TT, _, ds, rfl, kv, .of eq1, ndT, by omega, ?_, by omega, fun H24 y2 => ?_⟩
        · rw [List.length_append, List.length_take, List.length_drop, List.length_append]; omega
        rw [plan_twice ei, hL]
        have lU := lU.keep (Same.kd (y1.trans y2))
        refine ⟨U, _, _, rfl, rfl, lU.at_, ?_, 5, x16, x17, rfl, (s22.same (y1.trans y2)).mut nU n1 n2, ⟨upd_same, n1, n2⟩, by omega⟩
        rw [List.length_map, List.length_replicate]; exact small1000 (by omega)
      clear lU lq s19
      rintro σ H20 ⟨m, y16, y17, rfl, s20, lU, m5⟩
      refine ⟨_, rfl, _, rfl, (by show 1 ≤ sizeLine; decide), fun W hW => ?_⟩
      have y1 := same_upd (o := .lst [V.bl due]) hW
      have eW := upd_same (H := H20) (a := W) (o := .lst [V.bl due])
      generalize upd H20 W (.lst [V.bl due]) = H21 at *
      refine ⟨_, rfl, U, _, rfl, .inl (.of (y1 _ _ lU.at_)), W, _, _, rfl, rfl, eW, ?_, ?_, ?_, fun X hX => ?_⟩
      · omega
      · rw [List.length_map, List.length_replicate]; omega
      · rw [List.length_map, List.length_replicate]
        exact Nat.le_of_lt (small1000 (by show 1 * (m : Int).toNat ≤ 1000; omega))
      rw [List.length_map, List.length_replicate]
      have fl : (List.replicate (m : Int).toNat [V.bl due]).flatten = (List.replicate m due).map V.bl := by
        rw [Int.toNat_natCast, List.map_replicate]
        exact flat_rep _ m
      rw [fl]
      have y2 := same_upd (o := .lst ((List.replicate m due).map V.bl)) hX
      refine ⟨bdata (List.replicate m due), bdata (List.replicate m due), .lst (.of (y2 _ _ (y1 _ _ lU.at_))) dp_bools, .lst (.of upd_same) dp_bools, bdata_ok _, bdata_ok _, _, rfl, iteNB ?_ ⟨_, _, _, _, _, _, _, _, rfl, s20.same (y1.trans y2)⟩⟩
      rw [show PyData.eqv (bdata (List.replicate m due)) (bdata (List.replicate m due)) = true from SeqAt.eqv_refl _ (SeqAt.canLay_of_shaped (bdata_ok _))]
      rfl
    · rintro σ H0 ⟨x10, x11, x12, x13, x14, x15, x16, x17, rfl, s0⟩
      exact k _ (st11.trans s0)
/-! ### the law -/
structure Row where
  b : Addr
  u : Addr
  ts : List Str
  ls : List (List Str)
def RowOk (C : Addr) (S : List Addr) (H : Hp) (r : Row) : Prop := BkS C S H r.b r.ts r.ls ∧ RwS S H r.u r.ts r.ls ∧ TasksOk r.ts ∧ r.ts.length ≤ 4 ∧ r.ls.length ≤ 3
theorem RowOk.kx {C : Addr} {S : List Addr} {H H' : Hp} {r : Row} (h : RowOk C S H r) (al : AllL S H) (k : Kx S H H') : RowOk C S H' r := ⟨h.1.kx al k, h.2.1.kx al k, h.2.2⟩
def allTs (rows : List Row) : List Str := rows.flatMap Row.ts
/-- the names that an order of four picks from the k-th four -/
def pick (ts : List Str) (k : Nat) (os : List Int) : List Str := os.map fun o => ts.getD (4 * k + o.toNat) ""
theorem pick_at {ts : List Str} {k : Nat} {o : Int} (h1 : 0 ≤ o) (h2 : o < 4) (hk : k < 3) (hl : ts.length = 12) : ts[4 * k + o.toNat]? = some (ts.getD (4 * k + o.toNat) "") := by
  have : 4 * k + o.toNat < ts.length := by omega
  rw [List.getElem?_eq_getElem this, List.getD_eq_getElem?_getD, List.getElem?_eq_getElem this]
  rfl
theorem pick_nd {ts : List Str} {k : Nat} {os : List Int} (h : ∀ o ∈ os, 0 ≤ o ∧ o < 4) (nd : os.Nodup) (hk : k < 3) (hl : ts.length = 12) (tn : ts.Nodup) : (pick ts k os).Nodup := by
  unfold pick
  refine List.pairwise_map.mpr (List.Pairwise.imp_of_mem (fun {a b} ha hb ne e => ne ?_) nd)
  have h1 := pick_at (h a ha).1 (h a ha).2 hk hl
  have h2 := pick_at (h b hb).1 (h b hb).2 hk hl
  rw [e, ← h2] at h1
  have ha := h a ha
  have := (List.getElem?_inj (by omega) tn).mp h1
  have hb := h b hb
  omega
theorem pick_in {ts : List Str} {k : Nat} {os : List Int} (h : ∀ o ∈ os, 0 ≤ o ∧ o < 4) (hk : k < 3) (hl : ts.length = 12) (tn : ts.Nodup) {z : Str} (hz : z ∈ pick ts k os) : z ∈ ts ∧ z ∈ ts.take (4 * (k + 1)) ∧ z ∉ ts.take (4 * k) := by
  obtain ⟨o, ho, rfl⟩ := List.mem_map.mp hz
  have h1 := pick_at (h o ho).1 (h o ho).2 hk hl
  have ho := h o ho
  refine ⟨List.mem_of_getElem? h1, ?_, fun m => ?_⟩
  · refine List.mem_of_getElem? (i := 4 * k + o.toNat) ?_
    rw [List.getElem?_take, if_pos (by omega)]
    exact h1
  · obtain ⟨j, hj⟩ := List.mem_iff_getElem?.mp m
    rw [List.getElem?_take] at hj
    by_cases c : j < 4 * k
    · rw [if_pos c, ← h1] at hj
      have := (List.getElem?_inj (by omega) tn).mp hj
      omega
    · rw [if_neg c] at hj
      cases hj
theorem three {α : Type} : ∀ {xs : List α}, xs.length = 3 → ∃ a b c, xs = [a, b, c]
  | [a, b, c], _ => ⟨a, b, c, rfl⟩
theorem datar3 {S : List Addr} {H : Hp} {d g u1 u2 u3 : Addr} {t1 t2 t3 : List Str} {l1 l2 l3 : List (List Str)} (hd : d ∈ S) (hg : g ∈ S) (h1 : RwS S H u1 t1 l1) (h2 : RwS S H u2 t2 l2) (h3 : RwS S H u3 t3 l3) (o1 : TasksOk t1) (o2 : TasksOk t2) (o3 : TasksOk t3) (f1 : l1.length ≤ 8) (f2 : l2.length ≤ 8) (f3 : l3.length ≤ 8) :
    DataR H d g [u1, u2, u3] [(t1, l1), (t2, l2), (t3, l3)] := by
  have one : ∀ {u : Addr} {ts : List Str} {ls : List (List Str)}, RwS S H u ts ls → TasksOk ts → ls.length ≤ 8 → ∃ t r, H u = some (.tup [.ref t, .ref r]) ∧ Lat H d g t (ts.map V.str) ∧ Rl ts H d g r ls ∧ TasksOk ts ∧ ls.length ≤ 8 := fun {u ts ls} h o f => by
    obtain ⟨t, r, as, a1, a2, a3, a4⟩ := h
    exact ⟨t, r, a1, a2.lat hd hg, ⟨as, a3.lat hd hg, a4⟩, o, f⟩
  refine ⟨rfl, fun i u x hu hx => ?_⟩
  match i, hu, hx with
  | 0, hu, hx =>
    obtain rfl := Option.some.inj hu
    obtain rfl := Option.some.inj hx
    exact one h1 o1 f1
  | 1, hu, hx =>
    obtain rfl := Option.some.inj hu
    obtain rfl := Option.some.inj hx
    exact one h2 o2 f2
  | 2, hu, hx =>
    obtain rfl := Option.some.inj hu
    obtain rfl := Option.some.inj hx
    exact one h3 o3 f3
  | n + 3, hu, hx => simp at hu
def spLaw (K : PySem.W.Frag) : Sp := fun vs H Q _ => ∃ (a : Addr) (ns : List Int), vs = [.ref a] ∧ SqL K H a (ns.map V.int) ∧ ns.length ≤ 63 ∧ ∀ H', Q (.bl true) H'
set_option maxHeartbeats 3200000 in
theorem ok_law (T : Tx K w mg) : FnOk P w K mg base CX0 10 T.f_law T.d_law ["script"] (spLaw K) := by
  refine T.F_law.ok sc_law (fun vs H Q E h => ?_) (fun cdv A outer s H vs Q E hr h => ?_)
  · obtain ⟨a, ns, rfl, _⟩ := h
    rfl
  · obtain ⟨a, ns, rfl, hS, hl, k⟩ := h
    refine ⟨_,
    (pss_cons
      (ps_set (i := 1) sc_law.nd rfl (.inr rfl) (pe_call (ok_law_deck T) (hr.mono (by decide)) (by rfl) T.g_law_deck T.F_law_deck.kp T.b_law_deck .nil pass0 (pa_cons (pv 0) pa_nil)))
    (pss_cons
      (ps_set (i := 2) sc_law.nd rfl (.inr rfl) (pe_call (ok_law_names T) (hr.mono (by decide)) (by rfl) T.g_law_names T.F_law_names.kp T.b_law_names .nil pass0 (pa_cons (pv 1) (pa_cons pe_int pa_nil))))
    (pss_cons
      (ps_set (i := 3) sc_law.nd rfl (.inl rfl) (pe_lst pa_nil))
    (pss_cons
      (ps_set (i := 4) sc_law.nd rfl (.inl rfl) (pe_lst pa_nil))
    (pss_cons
      (ps_for PassesOwn.never rfl (pi_range1 (by rfl) T.m_range (pa_cons pe_int pa_nil)) (pg_name (i := 5) sc_law.nd rfl (.inr rfl))
        (pss_cons
          (ps_set (i := 6) sc_law.nd rfl (.inr rfl) (pe_slice sl_list (pe_lc (own := [("at", 8)]) (g := gName 8) rfl sc_law.nd (pi_list (pe_call (ok_law_order T) (hr.mono (by decide)) (by rfl) T.g_law_order T.F_law_order.kp T.b_law_order .nil pass0 (pa_cons (pv 1) (pa_cons pe_int pa_nil)))) (blkOk_by (N := ["script", "deck", "names", "books", "data", "k", "own", "given", "at", "m"]) (sc := defScope s_law) (own := [("at", 8)]) (by decide +kernel)) (fun _ _ _ _ _ => (pg_name (i := 8) sc_law.nd rfl (.inl rfl))) (fun _ _ _ _ _ => pts_nil) (fun _ _ _ _ _ => (pe_ix (r := rIxL K) ix_list (pv 2) (pe_op op_add (pe_op op_mul pe_int (pv 5)) (pv 8)) (fun _ _ => rfl)))) po_none (po_some (pe_op op_add pe_int (pe_call (ok_law_draw T) (hr.mono (by decide)) (by rfl) T.g_law_draw T.F_law_draw.kp T.b_law_draw .nil pass0 (pa_cons (pv 1) (pa_cons pe_int pa_nil)))))))
        (pss_cons
          (ps_setLc (i := 7) (own := [("m", 9)]) (g := gName 9) rfl sc_law.nd rfl rfl (sw_true rfl rfl rfl (by decide +kernel)) (pi_range1 (by rfl) T.m_range (pa_cons (pe_call (ok_law_draw T) (hr.mono (by decide)) (by rfl) T.g_law_draw T.F_law_draw.kp T.b_law_draw .nil pass0 (pa_cons (pv 1) (pa_cons pe_int pa_nil))) pa_nil)) (blkOk_by (N := ["script", "deck", "names", "books", "data", "k", "own", "given", "at", "m"]) (sc := defScope s_law) (own := [("m", 9)]) (by decide +kernel)) (fun _ _ _ _ _ => (pg_name (i := 9) sc_law.nd rfl (.inl rfl))) (fun _ _ _ _ _ => pts_nil) (fun _ _ _ _ _ => (pe_call (ok_law_rule T) (hr.mono (by decide)) (by rfl) T.g_law_rule T.F_law_rule.kp T.b_law_rule .nil pass0 (pa_cons (pv 1) (pa_cons (pv 6) pa_nil)))))
        (pss_cons
          (ps_expr (pe_bm PySem.F.plainAttrs_list PySem.F.slot_list_append PySem.F.type_list_append mt_append (pv 4) (pa_cons (pe_tup (pa_cons (pv 6) (pa_cons (pv 7) pa_nil))) pa_nil)))
        (pss_one
          (ps_expr (pe_bm PySem.F.plainAttrs_list PySem.F.slot_list_append PySem.F.type_list_append mt_append (pv 3) (pa_cons (pe_make T.mk_Book (ok_Book_init T) (hr.mono (by decide)) (by rfl) T.mg_Book T.b_Book_init .nil pass0 (pa_cons (pe_callTy call_list_of (by rfl) T.m_list (by decide +kernel) (pa_cons (pv 6) pa_nil)) (pa_cons (pe_callTy call_list_of (by rfl) T.m_list (by decide +kernel) (pa_cons (pv 7) pa_nil)) pa_nil))) pa_nil))))))))
    (pss_cons
      (ps_if (PW.pt (pw_or (pt_not (pt_val (pe_call (ok_law_pairs_right T) hr (by rfl) T.g_law_pairs_right T.F_law_pairs_right.kp T.b_law_pairs_right .nil pass0 (pa_cons (pv 1) (pa_cons (pe_ix ix_list (pv 3) pe_int (fun _ _ => rfl)) (pa_cons (pe_ix ix_list (pv 3) pe_int (fun _ _ => rfl)) pa_nil)))))) (pw_or1 (pt_not (pt_val (pe_call (ok_law_pairs_right T) hr (by rfl) T.g_law_pairs_right T.F_law_pairs_right.kp T.b_law_pairs_right .nil pass0 (pa_cons (pv 1) (pa_cons (pe_ix ix_list (pv 3) pe_int (fun _ _ => rfl)) (pa_cons (pe_ix ix_list (pv 3) pe_int (fun _ _ => rfl)) pa_nil)))))))))
        (pss_one
          (ps_ret pe_bl))
        pss_nil)
    (C8.pss_cut
      (ps_if (pt_cmpR op_gt (pe_callB (cr_sum rfl) (by rfl) T.m_sum (by decide +kernel) (pa_cons (pe_lc (own := [("own", 6), ("given", 7)]) (g := gTup K 2 (gCons (gName 6) (gCons (gName 7) gNil))) rfl sc_law.nd (pi_list (pv 4)) (blkOk_by (N := ["script", "deck", "names", "books", "data", "k", "own", "given", "at", "m"]) (sc := defScope s_law) (own := [("own", 6), ("given", 7)]) (by decide +kernel)) (fun _ _ _ _ _ => (pg_tupK (K := K) rfl (by rfl) (pgs_cons (pg_name (i := 6) sc_law.nd rfl (.inl rfl)) (pgs_cons (pg_name (i := 7) sc_law.nd rfl (.inl rfl)) pgs_nil)))) (fun _ _ _ _ _ => pts_nil) (fun _ _ _ _ _ => (pe_callB (id := "len") (r := rLen K) call_len_seq (by rfl) T.m_len (by decide +kernel) (pa_cons (pv 6) pa_nil)))) pa_nil)) pe_int (nomark _))
        (pss_cons
          (ps_setLc (i := 4) (own := [("own", 6), ("given", 7)]) (g := gTup K 2 (gCons (gName 6) (gCons (gName 7) gNil))) rfl sc_law.nd rfl rfl (sw_true rfl rfl rfl (by decide +kernel)) (pi_list (pv 4)) (blkOk_by (N := ["script", "deck", "names", "books", "data", "k", "own", "given", "at", "m"]) (sc := defScope s_law) (own := [("own", 6), ("given", 7)]) (by decide +kernel)) (fun _ _ _ _ _ => (pg_tupK (K := K) rfl (by rfl) (pgs_cons (pg_name (i := 6) sc_law.nd rfl (.inl rfl)) (pgs_cons (pg_name (i := 7) sc_law.nd rfl (.inl rfl)) pgs_nil)))) (fun _ _ _ _ _ => pts_nil) (fun _ _ _ _ _ => (pe_tup (pa_cons (pe_slice (r := rSlL K) sl_list (pv 6) po_none (po_some pe_int)) (pa_cons (pe_lst pa_nil) pa_nil)))))
        (pss_one
          (ps_setLc (i := 3) (own := [("own", 6), ("given", 7)]) (g := gTup K 2 (gCons (gName 6) (gCons (gName 7) gNil))) rfl sc_law.nd rfl rfl (sw_true rfl rfl rfl (by decide +kernel)) (pi_list (pv 4)) (blkOk_by (N := ["script", "deck", "names", "books", "data", "k", "own", "given", "at", "m"]) (sc := defScope s_law) (own := [("own", 6), ("given", 7)]) (by decide +kernel)) (fun _ _ _ _ _ => (pg_tupK (K := K) rfl (by rfl) (pgs_cons (pg_name (i := 6) sc_law.nd rfl (.inl rfl)) (pgs_cons (pg_name (i := 7) sc_law.nd rfl (.inl rfl)) pgs_nil)))) (fun _ _ _ _ _ => pts_nil) (fun _ _ _ _ _ => (pe_make T.mk_Book (ok_Book_init T) (hr.mono (by decide)) (by rfl) T.mg_Book T.b_Book_init .nil pass0 (pa_cons (pe_callTy (T := "list") (r := rList K) call_list_of (by rfl) T.m_list (by decide +kernel) (pa_cons (pv 6) pa_nil)) (pa_cons (pe_lst pa_nil) pa_nil)))))))
        pss_nil)
    (pss_one
      (ps_ret (pe_call (ok_law_rows_right T) hr (by rfl) T.g_law_rows_right T.F_law_rows_right.kp T.b_law_rows_right .nil pass0 (pa_cons (pv 1) (pa_cons (pv 3) (pa_cons (pv 4) pa_nil))))))))))))), ?_⟩
    refine ⟨_, rfl, a, ns, rfl, hS, hl, fun d g H1 s1 hD1 => ?_⟩
    refine ⟨_, rfl, d, g, 12, rfl, hD1, by decide, by decide, fun p ts H2 hD2 k2 fp ep pd pg tl nm tn' => ?_⟩
    clear k2 fp s1 hD1 hS hl
    refine ⟨Nat.zero_le _, fun B hB => ?_⟩
    have y1 := same_upd (o := .lst []) hB
    have eB := upd_same (H := H2) (a := B) (o := .lst [])
    have nB := hD2.new hB
    have hD3 := hD2.same y1
    have pB : p ≠ B := ne_of_none ep hB
    have ep := y1 _ _ ep
    generalize upd H2 B (.lst []) = H3 at *
    clear y1 hB hD2
    refine ⟨Nat.zero_le _, fun D hD => ?_⟩
    have y1 := same_upd (o := .lst []) hD
    have eD := upd_same (H := H3) (a := D) (o := .lst [])
    have nD := hD3.new hD
    have hD4 := hD3.same y1
    have pD : p ≠ D := ne_of_none ep hD
    have BD : B ≠ D := ne_of_none eB hD
    have ep := y1 _ _ ep
    have eB := y1 _ _ eB
    generalize upd H3 D (.lst []) = H4 at *
    clear y1 hD hD3
    have dS : d ∈ [d, g, B, D] := List.mem_cons_self
    have gS : g ∈ [d, g, B, D] := List.mem_cons_of_mem _ List.mem_cons_self
    have bS : B ∈ [d, g, B, D] := List.mem_cons_of_mem _ (List.mem_cons_of_mem _ List.mem_cons_self)
    have DS : D ∈ [d, g, B, D] := List.mem_cons_of_mem _ (List.mem_cons_of_mem _ (List.mem_cons_of_mem _ List.mem_cons_self))
    have pS : p ∉ [d, g, B, D] := by
      simp only [List.mem_cons, List.not_mem_nil, or_false, not_or]
      exact ⟨pd, pg, pB, pD⟩
    have alS : ∀ {H : Hp} {xs ys : List V}, Deck H d g → H B = some (.lst xs) → H D = some (.lst ys) → AllL [d, g, B, D] H := fun {H xs ys} hd h1 h2 => hd.all fun s m n1 n2 => by
      simp only [List.mem_cons, List.not_mem_nil, or_false] at m
      rcases m with rfl | rfl | rfl | rfl
      · exact absurd rfl n1
      · exact absurd rfl n2
      · exact ⟨_, h1⟩
      · exact ⟨_, h2⟩
    generalize hSS : [d, g, B, D] = S at *
    refine ⟨3, rfl, by decide, by decide, for_range (n := 3) (fun i σ H' => ∃ (x5 x6 x7 x8 x9 : Option V) (rows : List Row), σ = [some (.ref a), some (.ref d), some (.ref p), some (.ref B), some (.ref D), x5, x6, x7, x8, x9] ∧ Deck H' d g ∧ Ls S H' p (ts.map V.str) ∧ H' B = some (.lst (rows.map fun r => V.ref r.b)) ∧ H' D = some (.lst (rows.map fun r => V.ref r.u)) ∧
      rows.length = i ∧ (∀ r ∈ rows, RowOk T.C_Book S H' r) ∧ (allTs rows).Nodup ∧ ∀ z ∈ allTs rows, z ∈ ts.take (4 * i)) ⟨_, _, _, _, _, [], rfl, hD4, ⟨ep, pS⟩, eB, eD, rfl, fun r h => absurd h List.not_mem_nil, List.nodup_nil, fun z h => absurd h List.not_mem_nil⟩ ?_ ?_⟩
    · clear eB eD ep hD4
      rintro i σ H0 hi ⟨x5, x6, x7, x8, x9, rows, rfl, hD0, lp, eB, eD, rlen, rok, rnd, rin⟩
      have al0 := alS hD0 eB eD
      refine ⟨_, rfl, d, g, 4, rfl, hD0, by decide, fun q os H1 s1 fq eq q1 q2 oin ol ond => ⟨q, rfl, ⟨_, .of eq⟩, fun D2 hD2 => ?_⟩⟩
      have lp1 := lp.kx (s1.kd.kx dS gS)
      refine lc_list (xs := os.map V.int) (fun j H' => H' D2 = some (.lst ((pick ts i (os.take j)).map V.str)) ∧ Same H1 H') ⟨upd_same, same_upd hD2⟩ (fun j H' _ h => .of (h.2 _ _ eq)) ?_ ?_
      · rintro j v H7 hj ⟨e7, sm⟩
        rw [List.getElem?_map] at hj
        obtain ⟨o, ho, rfl⟩ := Option.map_eq_some_iff.mp hj
        have oi := oin o (List.mem_of_getElem? ho)
        have hjl := (List.getElem?_eq_some_iff.mp ho).1
        have pa := pick_at oi.1 oi.2 hi tl
        have ix : (4 * (0 + (i : Int)) + o) = ((4 * i + o.toNat : Nat) : Int) := by omega
        refine ⟨rfl, _, rfl, _, rfl, _, _, rfl, rfl, .inl ⟨by decide, by decide⟩, _, rfl, _, _, rfl, rfl, p, _, _, V.str (ts.getD (4 * i + o.toNat) ""), rfl, rfl, .of (sm _ _ lp1.at_), ?_, _, e7, ?_, ?_, fun b o e => ?_⟩
        · rw [ix]
          exact atI_nat (by rw [List.getElem?_map, pa]; rfl)
        · rw [List.length_map]
          unfold pick
          rw [List.length_map, List.length_take]
          exact small1000 (by omega)
        · rw [upd_same, List.take_add_one, ho]
          unfold pick
          rw [List.map_append, List.map_append]
          rfl
        · rw [upd_ne (ne_of_none e hD2)]
          exact sm b o e
      have dD2 := s1.dk.new hD2
      rintro H2 ⟨e2, sm⟩
      rw [List.length_map, List.take_length] at e2
      have s2 := s1.same sm
      have wl : (pick ts i os).length = 4 := by unfold pick; rw [List.length_map]; exact ol
      have wn := pick_nd (k := i) (fun o h => oin o h) ond hi tl tn'
      have wi : ∀ z ∈ pick ts i os, z ∈ ts ∧ z ∈ ts.take (4 * (i + 1)) ∧ z ∉ ts.take (4 * i) := fun z hz => pick_in (fun o h => oin o h) hi tl tn' hz
      generalize pick ts i os = ws at *
      refine ⟨_, rfl, d, g, 4, rfl, s2.dk, by decide, by decide +kernel, fun e H3 e0 e1 hD3 k3 => ⟨_, _, rfl, rfl, _, rfl, D2, _, rfl, .of (k3 _ _ e2 dD2.1 dD2.2), fun G hG => ?_⟩⟩
      obtain ⟨e, rfl⟩ := Int.eq_ofNat_of_zero_le e0
      have s3 := s2.draw hD3 k3
      clear s2 s1 sm e2 eq fq lp1 dD2 hD2 oin ol ond
      have ec : cutV (ws.map V.str) none (some (1 + (e : Int))) = (ws.take (1 + e)).map V.str := by rw [show (1 : Int) + e = ((1 + e : Nat) : Int) by omega, cut_take, List.map_take]
      rw [ec]
      have okt : TasksOk (ws.take (1 + e)) := ⟨fun z => by
        have := congrArg List.length z
        rw [List.length_take, wl] at this
        simp at this, fun z hz => nm z (wi z (List.mem_of_mem_take hz)).1, wn.sublist (List.take_sublist _ _), by rw [List.length_take]; omega⟩
      have tl4 : (ws.take (1 + e)).length ≤ 4 := by rw [List.length_take]; omega
      have wi : ∀ z ∈ ws.take (1 + e), z ∈ ts.take (4 * (i + 1)) ∧ z ∉ ts.take (4 * i) := fun z hz => (wi z (List.mem_of_mem_take hz)).2
      generalize ws.take (1 + e) = own at *
      have s4 := s3.new (o := .lst (own.map V.str)) hG
      have al3 : AllL S H3 := alS hD3 (s3.kd _ _ eB nB.1 nB.2) (s3.kd _ _ eD nD.1 nD.2)
      have lG : Ls S (upd H3 G (.lst (own.map V.str))) G (own.map V.str) := Ls.new al3 hG
      generalize upd H3 G (.lst (own.map V.str)) = H4 at *
      clear al3 hG s3 hD3 k3 ec wn wl
      -- given
      refine ⟨_, rfl, d, g, 4, rfl, s4.dk, by decide, by decide +kernel, fun n H5 n0 n1 hD5 k5 => ⟨_, rfl, by omega, by omega, fun R hR => ?_⟩⟩
      have s5 := s4.draw hD5 k5
      have lG5 := lG.kx (k5.kx dS gS)
      have al5 : AllL S H5 := alS hD5 (s5.kd _ _ eB nB.1 nB.2) (s5.kd _ _ eD nD.1 nD.2)
      have dR := s5.dk.new hR
      have nR := al5.new hR
      have fR := s5.free hR
      have GR : G ≠ R := ne_of_none lG5.at_ hR
      refine lc_range (lo := 0) (n := n.toNat) (fun j H' => ∃ as ls, Std H5 H' d g ∧ Rls own H' as ls ∧ as.length = j ∧ H' R = some (.lst (as.map V.ref))) ?_ ?_ ?_
      · exact ⟨[], [], (Std.refl s5.dk).new hR, .nil, rfl, upd_same⟩
      · rintro j H6 hj ⟨as, ls, s6, rl, al, eR⟩
        refine ⟨rfl, _, rfl, _, rfl, d, g, G, own, rfl, s6.dk, (lG5.lat dS gS).keep s6.kd, okt, fun a l H7 s7 fa ea rok => ?_⟩
        have eR7 := s7.kd _ _ eR dR.1 dR.2
        have s57 := s6.trans s7
        refine ⟨as.map V.ref, eR7, ?_, as ++ [a], ls ++ [l], s57.mut hR dR.1 dR.2, ?_, ?_, ?_⟩
        · rw [List.length_map, al]; exact small1000 (by omega)
        · exact ((rl.keep (Kd.tk s7.kd s6.dk)).snoc ea rok).keep (tk_mut eR7)
        · rw [List.length_append, al]; rfl
        · rw [upd_same, List.map_append]; rfl
      rintro H6 ⟨as, ls, s6, rls, al, eR⟩
      have lls : ls.length ≤ 3 := by rw [← rls.len, al]; omega
      have s06 := s5.trans s6
      have lG6 := lG5.kx (s6.kd.kx dS gS)
      clear lG5 lG s4 s5 s6 hD5 k5 hR fR dR al5 al
      clear n0 n1
      -- a row
      have eD6 := s06.kd _ _ eD nD.1 nD.2
      have eB6 := s06.kd _ _ eB nB.1 nB.2
      refine ⟨_, rfl, .inl ⟨rfl, _, .of eD6⟩, _, rfl, _, rfl, (by show 2 ≤ sizeLine; decide), fun u hu => ⟨D, _, _, rfl, rfl, same_upd hu _ _ eD6, ?_, ?_⟩⟩
      · rw [List.length_map]; exact small1000 (by omega)
      have s7 := same_upd (o := .tup [.ref G, .ref R]) hu
      have eu := upd_same (H := H6) (a := u) (o := .tup [.ref G, .ref R])
      have al6 : AllL S H6 := alS s06.dk eB6 eD6
      have al7 := al6.same s7
      have eD7 := s7 _ _ eD6
      have hD7 := s06.dk.same s7
      generalize upd H6 u (.tup [.ref G, .ref R]) = H7 at *
      have k06 : Kx S H0 H6 := s06.kd.kx dS gS
      have k8 : Kx S H7 (upd H7 D (.lst (rows.map (fun r => V.ref r.u) ++ [.ref u]))) := kx_upd DS
      have k68 := (Same.kx s7).trans k8
      have k08 := k06.trans k68
      have hD8 : Deck (upd H7 D (.lst (rows.map (fun r => V.ref r.u) ++ [.ref u]))) d g := deck_mv hD7 nD
      have eD8 := upd_same (H := H7) (a := D) (o := .lst (rows.map (fun r => V.ref r.u) ++ [.ref u]))
      have eB8 : upd H7 D (.lst (rows.map (fun r => V.ref r.u) ++ [.ref u])) B = some (.lst (rows.map fun r => V.ref r.b)) := by
        rw [upd_ne BD]
        exact s7 _ _ eB6
      have eu8 := (k8.tk al7) _ _ eu
      have lG8 := lG6.kx k68
      have eR8 : Ls S _ R (as.map V.ref) := (Ls.mk eR nR).kx k68
      have rl8 := rls.keep (k68.tk al6)
      generalize upd H7 D (.lst (rows.map (fun r => V.ref r.u) ++ [.ref u])) = H8 at *
      have al8 := alS hD8 eB8 eD8
      clear k8 k68 k06 eD7 hD7 al7 al6 eu s7 hu eB6 eD6 s06 lG6 rls eR
      -- a book
      refine ⟨_, rfl, .inl ⟨rfl, _, .of eB8⟩, _, rfl, G, _, rfl, .inl (.of lG8.at_), fun t1 ht1 => ?_⟩
      have y1 := same_upd (o := .lst (own.map V.str)) ht1
      have et1 := upd_same (H := H8) (a := t1) (o := .lst (own.map V.str))
      generalize upd H8 t1 (.lst (own.map V.str)) = H9 at *
      refine ⟨_, rfl, R, _, rfl, .inl (.of (y1 _ _ eR8.at_)), fun r1 hr1 => ?_⟩
      have y2 := y1.trans (same_upd (o := .lst (as.map V.ref)) hr1)
      have et2 := same_upd (o := .lst (as.map V.ref)) hr1 _ _ et1
      have er2 := upd_same (H := H9) (a := r1) (o := .lst (as.map V.ref))
      generalize upd H9 r1 (.lst (as.map V.ref)) = H10 at *
      refine mkB y2 et2 er2 (rl8.keep (Same.tk y2)) okt fun x dx t r as' H11 sm ft fr ex et er rl => ?_
      refine ⟨B, _, _, rfl, rfl, sm _ _ eB8, ?_, ?_⟩
      · rw [List.length_map]; exact small1000 (by omega)
      have al11 := al8.same sm
      have kB : Kx S H11 (upd H11 B (.lst (rows.map (fun r => V.ref r.b) ++ [.ref x]))) := kx_upd bS
      have kf := (Same.kx sm).trans kB
      have bkx : BkS T.C_Book S H11 x own ls := ⟨dx, t, r, as', ex, ⟨et, al8.new ft⟩, ⟨er, al8.new fr⟩, rl⟩
      have rwu : RwS S H8 u own ls := ⟨G, R, as, eu8, lG8, eR8, rl8⟩
      refine ⟨_, _, _, _, _, rows ++ [⟨x, u, own, ls⟩], rfl, deck_mv (hD8.same sm) nB, lp.kx (k08.trans kf), ?_, ?_, ?_, ?_, ?_, ?_⟩
      · rw [upd_same, List.map_append]; rfl
      · rw [upd_ne BD.symm, sm _ _ eD8, List.map_append]; rfl
      · rw [List.length_append, rlen]; rfl
      · intro r hr
        rcases List.mem_append.mp hr with h | h
        · exact (rok r h).kx al0 (k08.trans kf)
        · rw [List.mem_singleton.mp h]
          exact ⟨bkx.kx al11 kB, rwu.kx al8 kf, okt, tl4, lls⟩
      · unfold allTs
        rw [List.flatMap_append]
        refine List.nodup_append.mpr ⟨rnd, ?_, fun y hy z hz e => ?_⟩
        · simpa using okt.nd
        · have hz' : z ∈ own := by simpa using hz
          exact (wi z hz').2 (e ▸ rin y hy)
      · intro z hz
        unfold allTs at hz
        rw [List.flatMap_append] at hz
        rcases List.mem_append.mp hz with h | h
        · exact List.mem_of_mem_take (i := 4 * i) (by rw [List.take_take, Nat.min_eq_left (by omega)]; exact rin z h)
        · exact (wi z (by simpa using h)).1
    · rintro σ H0 ⟨x5, x6, x7, x8, x9, rows, rfl, hD0, lp, eB, eD, rl, rok, rnd, rin⟩
      obtain ⟨r1, r2, r3, rfl⟩ := three rl
      · skip
        have al := alS hD0 eB eD
        obtain ⟨bk1, rw1, ok1, f1, g1⟩ := rok r1 List.mem_cons_self
        obtain ⟨bk2, rw2, ok2, f2, g2⟩ := rok r2 (List.mem_cons_of_mem _ List.mem_cons_self)
        obtain ⟨bk3, rw3, ok3, f3, g3⟩ := rok r3 (List.mem_cons_of_mem _ (List.mem_cons_of_mem _ List.mem_cons_self))
        have nd : ((r1.ts ++ r2.ts) ++ r3.ts).Nodup := by
          have := rnd
          unfold allTs at this
          simpa using this
        have nd12 : (r1.ts ++ r2.ts).Nodup := (List.nodup_append.mp nd).1
        have nd31 : (r3.ts ++ r1.ts).Nodup := by
          refine (List.perm_append_comm.nodup_iff).mp ?_
          rw [List.append_assoc] at nd
          have h1 := List.nodup_append.mp nd
          have h2 := List.nodup_append.mp h1.2.1
          exact List.nodup_append.mpr ⟨h1.1, h2.2.1, fun y hy z hz => h1.2.2 y hy z (List.mem_append_right _ hz)⟩
        clear rok rnd rin
        refine ⟨_, rfl, _, rfl, B, _, _, V.ref r1.b, rfl, rfl, .of eB, atI_nat (j := 0) rfl, _, rfl, B, _, _, V.ref r2.b, rfl, rfl, .of eB, atI_nat (j := 1) rfl, d, g, r1.b, r2.b, r1.ts, r2.ts, r1.ls, r2.ls, rfl, hD0, bk1.bk dS gS, bk2.bk dS gS, ok1, ok2, by omega, by omega, by omega, common_nil nd12, fun H1 s1 => ⟨_, rfl, ?_⟩⟩
        have k1 := s1.kd.kx dS gS
        have eB1 := s1.kd _ _ eB nB.1 nB.2
        refine ⟨_, rfl, _, rfl, B, _, _, V.ref r3.b, rfl, rfl, .of eB1, atI_nat (j := 2) rfl, _, rfl, B, _, _, V.ref r1.b, rfl, rfl, .of eB1, atI_nat (j := 0) rfl, d, g, r3.b, r1.b, r3.ts, r1.ts, r3.ls, r1.ls, rfl, s1.dk, (bk3.kx al k1).bk dS gS, (bk1.kx al k1).bk dS gS, ok3, ok1, by omega, by omega, by omega, common_nil nd31, fun H2 s2 => ⟨_, rfl, ?_⟩⟩
        have s02 := s1.trans s2
        have k2 := s02.kd.kx dS gS
        have eB2 := s02.kd _ _ eB nB.1 nB.2
        have eD2 := s02.kd _ _ eD nD.1 nD.2
        have bk1 := bk1.kx al k2
        have bk2 := bk2.kx al k2
        have bk3 := bk3.kx al k2
        have rw1 := rw1.kx al k2
        have rw2 := rw2.kx al k2
        have rw3 := rw3.kx al k2
        have hD2 := s02.dk
        have al2 := alS hD2 eB2 eD2
        clear s1 s2 s02 k1 k2 eB1 eB eD al hD0 lp
        -- fewer tasks
        refine ⟨fun σ' H' => ∃ (x5 x6 x7 x8 x9 : Option V) (B D b1 b2 b3 u1 u2 u3 : Addr) (t1 t2 t3 : List Str) (l1 l2 l3 : List (List Str)), σ' = [some (.ref a), some (.ref d), some (.ref p), some (.ref B), some (.ref D), x5, x6, x7, x8, x9] ∧ Deck H' d g ∧ Lat H' d g B [.ref b1, .ref b2, .ref b3] ∧ Lat H' d g D ([u1, u2, u3].map V.ref) ∧ DataR H' d g [u1, u2, u3] [(t1, l1), (t2, l2), (t3, l3)] ∧
          Bk T.C_Book H' d g b1 t1 l1 ∧ Bk T.C_Book H' d g b2 t2 l2 ∧ Bk T.C_Book H' d g b3 t3 l3 ∧ ((t1 ++ t2) ++ t3).Nodup ∧ t1.length + t2.length + t3.length ≤ 7, ?_, ?_⟩
        · refine ⟨_, rfl, D, rfl, ⟨_, .of eD2⟩, fun D2 hD2' => ?_⟩
          refine lc_list (xs := [r1, r2, r3].map fun r => V.ref r.u) (fun i H' => H' D2 = some (.lst ((([r1, r2, r3].take i).map fun r => (r.ts.length : Int)).map V.int)) ∧ Same H2 H') ⟨upd_same, same_upd hD2'⟩ (fun i H' _ h => .of (h.2 _ _ eD2)) ?_ ?_
          · rintro i v H3 hi ⟨e3, s3⟩
            rw [List.getElem?_map] at hi
            obtain ⟨r, hr', rfl⟩ := Option.map_eq_some_iff.mp hi
            have il := (List.getElem?_eq_some_iff.mp hr').1
            have rwr : RwS S H2 r.u r.ts r.ls := by
              have := List.mem_of_getElem? hr'
              simp only [List.mem_cons, List.not_mem_nil, or_false] at this
              rcases this with rfl | rfl | rfl
              · exact rw1
              · exact rw2
              · exact rw3
            obtain ⟨t, r', as, h1, h2, h3, h4⟩ := rwr
            refine ⟨r.u, _, rfl, .of (s3 _ _ h1), rfl, _, _, rfl, _, _, rfl, rfl, rfl, _, rfl, t, _, rfl, .inl (.of (s3 _ _ h2.at_)), _, e3, ?_, ?_, fun b o e => ?_⟩
            · rw [List.length_map, List.length_map, List.length_take]; exact small1000 (by omega)
            · rw [upd_same, List.take_add_one, hr', List.map_append, List.map_append, List.length_map]
              rfl
            · rw [upd_ne (ne_of_none e hD2')]
              exact s3 b o e
          rintro H3 ⟨e3, s3⟩
          rw [List.length_map, List.take_length] at e3
          have hD3 := hD2.same s3
          have k3 : Kx S H2 H3 := Same.kx s3
          refine ⟨D2, _, rfl, .of e3, _, _, rfl, rfl, _, rfl, ite2 (fun c => ?_) (fun c => ?_)⟩
          · have eD3 := s3 _ _ eD2
            have rr : ∀ r ∈ [r1, r2, r3], RwS S H3 r.u r.ts r.ls := fun r hr' => by
              simp only [List.mem_cons, List.not_mem_nil, or_false] at hr'
              rcases hr' with rfl | rfl | rfl
              · exact rw1.kx al2 k3
              · exact rw2.kx al2 k3
              · exact rw3.kx al2 k3
            have two : ∀ r ∈ [r1, r2, r3], TasksOk (r.ts.take 2) ∧ (r.ts.take 2).length ≤ 2 := fun r hr' => by
              have ok : TasksOk r.ts := by
                simp only [List.mem_cons, List.not_mem_nil, or_false] at hr'
                rcases hr' with rfl | rfl | rfl
                · exact ok1
                · exact ok2
                · exact ok3
              have p0 := List.length_pos_iff.mpr ok.ne
              refine ⟨⟨fun z => ?_, fun z hz => ok.nm z (List.mem_of_mem_take hz), ok.nd.sublist (List.take_sublist _ _), ?_⟩, ?_⟩
              · exact (List.take_eq_nil_iff.mp z).elim (by decide) ok.ne
              · rw [List.length_take]; omega
              · rw [List.length_take]; omega
            clear e3 c eB2 eD2 bk1 bk2 bk3 rw1 rw2 rw3 hD2 al2 k3 s3 hD2'
            -- data
            refine ⟨_, rfl, D, rfl, ⟨_, .of eD3⟩, fun D3 hD3' => ?_⟩
            have nD3 := hD3.new hD3'
            have DD3 : D ≠ D3 := ne_of_none eD3 hD3'
            have dS3 : d ∈ [d, g, D3] := List.mem_cons_self
            have gS3 : g ∈ [d, g, D3] := List.mem_cons_of_mem _ List.mem_cons_self
            have DS3 : D3 ∈ [d, g, D3] := List.mem_cons_of_mem _ (List.mem_cons_of_mem _ List.mem_cons_self)
            have alS3 : ∀ {H : Hp} {xs : List V}, Deck H d g → H D3 = some (.lst xs) → AllL [d, g, D3] H := fun {H xs} hd h1 => hd.all fun s m n1 n2 => by
              simp only [List.mem_cons, List.not_mem_nil, or_false] at m
              rcases m with rfl | rfl | rfl
              · exact absurd rfl n1
              · exact absurd rfl n2
              · exact ⟨_, h1⟩
            generalize hS3 : [d, g, D3] = S3 at *
            have sm3 := same_upd (o := .lst []) hD3'
            refine lc_list (xs := [r1, r2, r3].map fun r => V.ref r.u) (fun i H' => ∃ ps : List (Addr × Row), ps.map Prod.snd = [r1, r2, r3].take i ∧ H' D3 = some (.lst (ps.map fun p => V.ref p.1)) ∧ Deck H' d g ∧ (∀ b o, H3 b = some o → H' b = some o) ∧ ∀ p ∈ ps, RwS S3 H' p.1 (p.2.ts.take 2) []) ⟨[], rfl, upd_same, hD3.same sm3, fun b o e => sm3 b o e, fun p h => absurd h List.not_mem_nil⟩ (fun i H' _ h => ?_) ?_ ?_
            · obtain ⟨_, _, _, _, h, _⟩ := h
              exact .of (h _ _ eD3)
            · rintro i v H4 hi ⟨ps, pe, e4, hD4, s4, pr⟩
              rw [List.getElem?_map] at hi
              obtain ⟨r, hr', rfl⟩ := Option.map_eq_some_iff.mp hi
              have il := (List.getElem?_eq_some_iff.mp hr').1
              have pl : ps.length ≤ i := by
                have := congrArg List.length pe
                rw [List.length_map, List.length_take] at this
                omega
              obtain ⟨t, r', as, h1, h2, h3, h4⟩ := rr r (List.mem_of_getElem? hr')
              refine ⟨r.u, _, rfl, .of (s4 _ _ h1), rfl, _, _, rfl, _, _, rfl, rfl, rfl, _, rfl, _, rfl, t, _, rfl, .of (s4 _ _ h2.at_), fun G hG => ?_⟩
              rw [show cutV (r.ts.map V.str) none (some 2) = (r.ts.take 2).map V.str from by rw [show (2 : Int) = ((2 : Nat) : Int) from rfl, cut_take, List.map_take]]
              have al4 := alS3 hD4 e4
              have y1 := same_upd (o := .lst ((r.ts.take 2).map V.str)) hG
              have lG : Ls S3 (upd H4 G (.lst ((r.ts.take 2).map V.str))) G ((r.ts.take 2).map V.str) := Ls.new al4 hG
              generalize upd H4 G (.lst ((r.ts.take 2).map V.str)) = H5 at *
              have al5 := al4.same y1
              refine ⟨Nat.zero_le _, fun R hR => ⟨(by show 2 ≤ sizeLine; decide), fun u hu => ?_⟩⟩
              have y2 := same_upd (o := .lst []) hR
              have lR : Ls S3 (upd H5 R (.lst [])) R [] := Ls.new al5 hR
              have lG := lG.kx (Same.kx y2)
              generalize upd H5 R (.lst []) = H6 at *
              have y3 := same_upd (o := .tup [.ref G, .ref R]) hu
              have eu := upd_same (H := H6) (a := u) (o := .tup [.ref G, .ref R])
              have lR := lR.kx (Same.kx y3)
              have lG := lG.kx (Same.kx y3)
              generalize upd H6 u (.tup [.ref G, .ref R]) = H7 at *
              have y47 := (y1.trans y2).trans y3
              have e7 := y47 _ _ e4
              have al7 := alS3 (hD4.same y47) e7
              have kD : Kx S3 H7 (upd H7 D3 (.lst (ps.map (fun p => V.ref p.1) ++ [.ref u]))) := kx_upd DS3
              refine ⟨_, e7, ?_, ps ++ [(u, r)], ?_, ?_, deck_mv (hD4.same y47) nD3, fun b o e => ?_, fun p hp => ?_⟩
              · rw [List.length_map]; exact small1000 (by omega)
              · rw [List.map_append, pe, List.take_add_one, hr']; rfl
              · rw [upd_same, List.map_append]; rfl
              · rw [upd_ne (ne_of_none e hD3')]
                exact y47 _ _ (s4 _ _ e)
              · rcases List.mem_append.mp hp with h | h
                · exact (pr p h).kx al4 ((Same.kx y47).trans kD)
                · rw [List.mem_singleton.mp h]
                  exact RwS.kx (ls := []) ⟨G, R, [], eu, lG, lR, .nil⟩ al7 kD
            rintro H4 ⟨ps, pe, e4, hD4, s4, pr⟩
            rw [List.length_map, List.take_length] at pe
            obtain ⟨⟨u1, r1'⟩, ⟨u2, r2'⟩, ⟨u3, r3'⟩, rfl⟩ := three (show ps.length = 3 by
              have := congrArg List.length pe
              rw [List.length_map] at this
              exact this)
            obtain rfl : r1' = r1 := (List.cons.inj pe).1
            obtain rfl : r2' = r2 := (List.cons.inj (List.cons.inj pe).2).1
            obtain rfl : r3' = r3 := (List.cons.inj (List.cons.inj (List.cons.inj pe).2).2).1
            have al4 := alS3 hD4 e4
            clear alS3 rr
            -- books
            refine ⟨_, rfl, D3, rfl, ⟨_, .of e4⟩, fun D4 hD4' => ?_⟩
            have nD4 := hD4.new hD4'
            have D34 : D3 ≠ D4 := ne_of_none e4 hD4'
            have dS4 : d ∈ [d, g, D4] := List.mem_cons_self
            have gS4 : g ∈ [d, g, D4] := List.mem_cons_of_mem _ List.mem_cons_self
            have DS4 : D4 ∈ [d, g, D4] := List.mem_cons_of_mem _ (List.mem_cons_of_mem _ List.mem_cons_self)
            have alS4 : ∀ {H : Hp} {xs : List V}, Deck H d g → H D4 = some (.lst xs) → AllL [d, g, D4] H := fun {H xs} hd h1 => hd.all fun s m n1 n2 => by
              simp only [List.mem_cons, List.not_mem_nil, or_false] at m
              rcases m with rfl | rfl | rfl
              · exact absurd rfl n1
              · exact absurd rfl n2
              · exact ⟨_, h1⟩
            generalize hS4 : [d, g, D4] = S4 at *
            have sm4 := same_upd (o := .lst []) hD4'
            refine lc_list (xs := [(u1, r1'), (u2, r2'), (u3, r3')].map fun p => V.ref p.1) (fun i H' => ∃ qs : List (Addr × Row), qs.map Prod.snd = [r1', r2', r3'].take i ∧ H' D4 = some (.lst (qs.map fun p => V.ref p.1)) ∧ Deck H' d g ∧ (∀ b o, H4 b = some o → H' b = some o) ∧ ∀ p ∈ qs, BkS T.C_Book S4 H' p.1 (p.2.ts.take 2) []) ⟨[], rfl, upd_same, hD4.same sm4, fun b o e => sm4 b o e, fun p h => absurd h List.not_mem_nil⟩ (fun i H' _ h => ?_) ?_ ?_
            · obtain ⟨_, _, _, _, h, _⟩ := h
              exact .of (h _ _ e4)
            · rintro i v H5 hi ⟨qs, qe, e5, hD5, s5, qr⟩
              rw [List.getElem?_map] at hi
              obtain ⟨⟨u, r⟩, hr', rfl⟩ := Option.map_eq_some_iff.mp hi
              have il : i < 3 := (List.getElem?_eq_some_iff.mp hr').1
              have hrr : [r1', r2', r3'][i]? = some r := by
                have : ([(u1, r1'), (u2, r2'), (u3, r3')].map Prod.snd)[i]? = some r := by rw [List.getElem?_map, hr']; rfl
                exact this
              have pl : qs.length ≤ i := by
                have := congrArg List.length qe
                rw [List.length_map, List.length_take] at this
                omega
              obtain ⟨t, r', as, h1, h2, h3, h4⟩ := pr _ (List.mem_of_getElem? hr')
              have okr := (two r (List.mem_of_getElem? hrr)).1
              refine ⟨u, _, rfl, .of (s5 _ _ h1), rfl, _, _, rfl, _, _, rfl, rfl, rfl, _, rfl, t, _, rfl, .inl (.of (s5 _ _ h2.at_)), fun G hG => ?_⟩
              have al5 := alS4 hD5 e5
              have y1 := same_upd (o := .lst ((r.ts.take 2).map V.str)) hG
              have eG := upd_same (H := H5) (a := G) (o := .lst ((r.ts.take 2).map V.str))
              generalize upd H5 G (.lst ((r.ts.take 2).map V.str)) = H6 at *
              refine ⟨Nat.zero_le _, fun R hR => ?_⟩
              have y2 := y1.trans (same_upd (o := .lst []) hR)
              refine mkB y2 (same_upd hR _ _ eG) (bs := []) (ls := []) upd_same .nil okr fun x dx t r'' as' H7 sm ft fr ex et er rl => ?_
              have e7 := sm _ _ e5
              have al7 := alS4 (hD5.same sm) e7
              have kD : Kx S4 H7 (upd H7 D4 (.lst (qs.map (fun p => V.ref p.1) ++ [.ref x]))) := kx_upd DS4
              refine ⟨_, e7, ?_, qs ++ [(x, r)], ?_, ?_, deck_mv (hD5.same sm) nD4, fun b o e => ?_, fun p hp => ?_⟩
              · rw [List.length_map]; exact small1000 (by omega)
              · rw [List.map_append, qe, List.take_add_one, hrr]; rfl
              · rw [upd_same, List.map_append]; rfl
              · rw [upd_ne (ne_of_none e hD4')]
                exact sm _ _ (s5 _ _ e)
              · rcases List.mem_append.mp hp with h | h
                · exact (qr p h).kx al5 ((Same.kx sm).trans kD)
                · rw [List.mem_singleton.mp h]
                  exact BkS.kx (ls := []) ⟨dx, t, r'', as', ex, ⟨et, al5.new ft⟩, ⟨er, al5.new fr⟩, rl⟩ al7 kD
            rintro H5 ⟨qs, qe, e5, hD5, s5, qr⟩
            rw [List.length_map] at qe
            obtain ⟨⟨b1, r1⟩, ⟨b2, r2⟩, ⟨b3, r3⟩, rfl⟩ := three (show qs.length = 3 by
              have := congrArg List.length qe
              rw [List.length_map] at this
              exact this)
            obtain rfl : r1 = r1' := (List.cons.inj qe).1
            obtain rfl : r2 = r2' := (List.cons.inj (List.cons.inj qe).2).1
            obtain rfl : r3 = r3' := (List.cons.inj (List.cons.inj (List.cons.inj qe).2).2).1
            obtain ⟨o1, t1⟩ := two r1 List.mem_cons_self
            obtain ⟨o2, t2⟩ := two r2 (List.mem_cons_of_mem _ List.mem_cons_self)
            obtain ⟨o3, t3⟩ := two r3 (List.mem_cons_of_mem _ (List.mem_cons_of_mem _ List.mem_cons_self))
            have k45 : Kx S3 H4 H5 := fun b o e _ => s5 b o e
            refine ⟨_, _, _, _, _, D4, D3, b1, b2, b3, u1, u2, u3, r1.ts.take 2, r2.ts.take 2, r3.ts.take 2, [], [], [], rfl, hD5, ⟨e5, nD4.1, nD4.2⟩, ⟨s5 _ _ e4, nD3.1, nD3.2⟩, datar3 dS3 gS3 ((pr _ List.mem_cons_self).kx al4 k45) ((pr _ (List.mem_cons_of_mem _ List.mem_cons_self)).kx al4 k45) ((pr _ (List.mem_cons_of_mem _ (List.mem_cons_of_mem _ List.mem_cons_self))).kx al4 k45) o1 o2 o3 (Nat.zero_le _) (Nat.zero_le _) (Nat.zero_le _),
              (qr _ List.mem_cons_self).bk dS4 gS4, (qr _ (List.mem_cons_of_mem _ List.mem_cons_self)).bk dS4 gS4, (qr _ (List.mem_cons_of_mem _ (List.mem_cons_of_mem _ List.mem_cons_self))).bk dS4 gS4, ?_, by omega⟩
            exact nd.sublist (((List.take_sublist _ _).append (List.take_sublist _ _)).append (List.take_sublist _ _))
          · have c0 := of_decide_eq_false (Bool.eq_false_iff.mpr c)
            refine ⟨_, _, _, _, _, B, D, r1.b, r2.b, r3.b, r1.u, r2.u, r3.u, r1.ts, r2.ts, r3.ts, r1.ls, r2.ls, r3.ls, rfl, hD3, ⟨s3 _ _ eB2, nB.1, nB.2⟩, ⟨s3 _ _ eD2, nD.1, nD.2⟩, datar3 dS gS (rw1.kx al2 k3) (rw2.kx al2 k3) (rw3.kx al2 k3) ok1 ok2 ok3 (by omega) (by omega) (by omega), (bk1.kx al2 k3).bk dS gS, (bk2.kx al2 k3).bk dS gS, (bk3.kx al2 k3).bk dS gS, nd, ?_⟩
            simp at c0
            omega
        rintro σ H3 ⟨x5, x6, x7, x8, x9, B, D, b1, b2, b3, u1, u2, u3, t1, t2, t3, l1, l2, l3, rfl, hD3, lB, lD, rows, B1, B2, B3, nd, few⟩
        exact ⟨_, rfl, _, rfl, _, rfl, d, g, B, D, b1, b2, b3, u1, u2, u3, t1, t2, t3, l1, l2, l3, rfl, hD3, lB, lD, rows, B1, B2, B3, nd, few, fun H4 _ => k H4⟩
end
set_option maxHeartbeats 8000000 in
theorem all_mk {l : PySem.W.OpenLaw} {w : World} {K : PySem.W.Frag} {h : Heap} {mg : Str → Option Value} {fa f_PlanError_init f_is_name f_check_tasks f_check_rule f_is_kept f_turned f_exchanged f_Book_init f_Book_tasks f_Book_rules f_Book_keeps f_Book_with_rules f_Book_without f_Book_beside f_Book_then f_Book_turned f_Book_exchanged f_Book_and f_Book_len f_Book_eq f_law_deck f_law_draw f_law_names f_law_rule f_law_great f_law_days f_law_number f_law_kept f_law_is_plan f_law_backward f_law_order f_law_equal f_law_pairs_right f_law_due f_law_rows_right f_law : Addr} (X : K.In h) (G : h.Ns mainGlobals mg) (hfa : mg "law" = some (.ref fa))
    {C_Book : Addr}
    {C_DoubleName C_PlanError : Addr}
    {nm_DoubleName q_DoubleName : Str} {N_DoubleName : Addr} {bs_DoubleName : List Value} {sn_DoubleName : List Str} {sub_DoubleName : List Value} {ab_DoubleName : Bool} {col_DoubleName : Option Bool} {dd_DoubleName : Option Addr} {k0_DoubleName k1_DoubleName k2_DoubleName k3_DoubleName k5_DoubleName : Option Value}
    {d__TASKS_IN : Addr} {e__TASKS_IN : Array DictEntry} {i__TASKS_IN : Nat}
    {t__TASKS_IN_before : Tok}
    {t__TASKS_IN_upto : Tok}
    {t__TASKS_IN_same : Tok}
    {t__TASKS_IN_apart : Tok}
    {t__TASKS_IN_far : Tok}
    {t__TASKS_IN_next : Tok}
    {t__TASKS_IN_first : Tok}
    {t__TASKS_IN_last : Tok}
    {d__OTHER_END : Addr} {e__OTHER_END : Array DictEntry} {i__OTHER_END : Nat}
    {t__OTHER_END_first : Tok}
    {t__OTHER_END_last : Tok}
    {d__EXCHANGED : Addr} {e__EXCHANGED : Array DictEntry} {i__EXCHANGED : Nat}
    {t__EXCHANGED_before : Tok}
    {t__EXCHANGED_upto : Tok}
    {d__DIRECTED : Addr} {od__DIRECTED : Option Addr} {i__DIRECTED : Nat} {sl__DIRECTED : Array (Option Value)} {t__DIRECTED_0 t__DIRECTED_1 t__DIRECTED_2 t__DIRECTED_3 : Tok}
    {t__LONGEST_NAME : Tok}
    {od_PlanError_init an_PlanError_init : Option Addr} {sl_PlanError_init : Array (Option Value)} {oc_PlanError_init kV_PlanError_init dc_PlanError_init pm_PlanError_init cd_PlanError_init ct_PlanError_init : Value}
    {od_is_name an_is_name : Option Addr} {sl_is_name : Array (Option Value)} {oc_is_name kV_is_name dc_is_name pm_is_name cd_is_name ct_is_name : Value}
    {od_check_tasks an_check_tasks : Option Addr} {sl_check_tasks : Array (Option Value)} {oc_check_tasks kV_check_tasks dc_check_tasks pm_check_tasks cd_check_tasks ct_check_tasks : Value}
    {od_check_rule an_check_rule : Option Addr} {sl_check_rule : Array (Option Value)} {oc_check_rule kV_check_rule dc_check_rule pm_check_rule cd_check_rule ct_check_rule : Value}
    {od_is_kept an_is_kept : Option Addr} {sl_is_kept : Array (Option Value)} {oc_is_kept kV_is_kept dc_is_kept pm_is_kept cd_is_kept ct_is_kept : Value}
    {od_turned an_turned : Option Addr} {sl_turned : Array (Option Value)} {oc_turned kV_turned dc_turned pm_turned cd_turned ct_turned : Value}
    {od_exchanged an_exchanged : Option Addr} {sl_exchanged : Array (Option Value)} {oc_exchanged kV_exchanged dc_exchanged pm_exchanged cd_exchanged ct_exchanged : Value}
    {od_Book_init an_Book_init : Option Addr} {sl_Book_init : Array (Option Value)} {oc_Book_init kV_Book_init dc_Book_init pm_Book_init cd_Book_init ct_Book_init : Value}
    {od_Book_tasks an_Book_tasks : Option Addr} {sl_Book_tasks : Array (Option Value)} {oc_Book_tasks kV_Book_tasks dc_Book_tasks pm_Book_tasks cd_Book_tasks ct_Book_tasks : Value}
    {p_Book_tasks : Addr} {r_Book_tasks : List Value}
    {od_Book_rules an_Book_rules : Option Addr} {sl_Book_rules : Array (Option Value)} {oc_Book_rules kV_Book_rules dc_Book_rules pm_Book_rules cd_Book_rules ct_Book_rules : Value}
    {p_Book_rules : Addr} {r_Book_rules : List Value}
    {od_Book_keeps an_Book_keeps : Option Addr} {sl_Book_keeps : Array (Option Value)} {oc_Book_keeps kV_Book_keeps dc_Book_keeps pm_Book_keeps cd_Book_keeps ct_Book_keeps : Value}
    {od_Book_with_rules an_Book_with_rules : Option Addr} {sl_Book_with_rules : Array (Option Value)} {oc_Book_with_rules kV_Book_with_rules dc_Book_with_rules pm_Book_with_rules cd_Book_with_rules ct_Book_with_rules : Value}
    {od_Book_without an_Book_without : Option Addr} {sl_Book_without : Array (Option Value)} {oc_Book_without kV_Book_without dc_Book_without pm_Book_without cd_Book_without ct_Book_without : Value}
    {od_Book_beside an_Book_beside : Option Addr} {sl_Book_beside : Array (Option Value)} {oc_Book_beside kV_Book_beside dc_Book_beside pm_Book_beside cd_Book_beside ct_Book_beside : Value}
    {od_Book_then an_Book_then : Option Addr} {sl_Book_then : Array (Option Value)} {oc_Book_then kV_Book_then dc_Book_then pm_Book_then cd_Book_then ct_Book_then : Value}
    {od_Book_turned an_Book_turned : Option Addr} {sl_Book_turned : Array (Option Value)} {oc_Book_turned kV_Book_turned dc_Book_turned pm_Book_turned cd_Book_turned ct_Book_turned : Value}
    {od_Book_exchanged an_Book_exchanged : Option Addr} {sl_Book_exchanged : Array (Option Value)} {oc_Book_exchanged kV_Book_exchanged dc_Book_exchanged pm_Book_exchanged cd_Book_exchanged ct_Book_exchanged : Value}
    {od_Book_and an_Book_and : Option Addr} {sl_Book_and : Array (Option Value)} {oc_Book_and kV_Book_and dc_Book_and pm_Book_and cd_Book_and ct_Book_and : Value}
    {od_Book_len an_Book_len : Option Addr} {sl_Book_len : Array (Option Value)} {oc_Book_len kV_Book_len dc_Book_len pm_Book_len cd_Book_len ct_Book_len : Value}
    {od_Book_eq an_Book_eq : Option Addr} {sl_Book_eq : Array (Option Value)} {oc_Book_eq kV_Book_eq dc_Book_eq pm_Book_eq cd_Book_eq ct_Book_eq : Value}
    {od_law_deck an_law_deck : Option Addr} {sl_law_deck : Array (Option Value)} {oc_law_deck kV_law_deck dc_law_deck pm_law_deck cd_law_deck ct_law_deck : Value}
    {od_law_draw an_law_draw : Option Addr} {sl_law_draw : Array (Option Value)} {oc_law_draw kV_law_draw dc_law_draw pm_law_draw cd_law_draw ct_law_draw : Value}
    {od_law_names an_law_names : Option Addr} {sl_law_names : Array (Option Value)} {oc_law_names kV_law_names dc_law_names pm_law_names cd_law_names ct_law_names : Value}
    {od_law_rule an_law_rule : Option Addr} {sl_law_rule : Array (Option Value)} {oc_law_rule kV_law_rule dc_law_rule pm_law_rule cd_law_rule ct_law_rule : Value}
    {od_law_great an_law_great : Option Addr} {sl_law_great : Array (Option Value)} {oc_law_great kV_law_great dc_law_great pm_law_great cd_law_great ct_law_great : Value}
    {od_law_days an_law_days : Option Addr} {sl_law_days : Array (Option Value)} {oc_law_days kV_law_days dc_law_days pm_law_days cd_law_days ct_law_days : Value}
    {od_law_number an_law_number : Option Addr} {sl_law_number : Array (Option Value)} {oc_law_number kV_law_number dc_law_number pm_law_number cd_law_number ct_law_number : Value}
    {od_law_kept an_law_kept : Option Addr} {sl_law_kept : Array (Option Value)} {oc_law_kept kV_law_kept dc_law_kept pm_law_kept cd_law_kept ct_law_kept : Value}
    {od_law_is_plan an_law_is_plan : Option Addr} {sl_law_is_plan : Array (Option Value)} {oc_law_is_plan kV_law_is_plan dc_law_is_plan pm_law_is_plan cd_law_is_plan ct_law_is_plan : Value}
    {od_law_backward an_law_backward : Option Addr} {sl_law_backward : Array (Option Value)} {oc_law_backward kV_law_backward dc_law_backward pm_law_backward cd_law_backward ct_law_backward : Value}
    {od_law_order an_law_order : Option Addr} {sl_law_order : Array (Option Value)} {oc_law_order kV_law_order dc_law_order pm_law_order cd_law_order ct_law_order : Value}
    {od_law_equal an_law_equal : Option Addr} {sl_law_equal : Array (Option Value)} {oc_law_equal kV_law_equal dc_law_equal pm_law_equal cd_law_equal ct_law_equal : Value}
    {od_law_pairs_right an_law_pairs_right : Option Addr} {sl_law_pairs_right : Array (Option Value)} {oc_law_pairs_right kV_law_pairs_right dc_law_pairs_right pm_law_pairs_right cd_law_pairs_right ct_law_pairs_right : Value}
    {od_law_due an_law_due : Option Addr} {sl_law_due : Array (Option Value)} {oc_law_due kV_law_due dc_law_due pm_law_due cd_law_due ct_law_due : Value}
    {od_law_rows_right an_law_rows_right : Option Addr} {sl_law_rows_right : Array (Option Value)} {oc_law_rows_right kV_law_rows_right dc_law_rows_right pm_law_rows_right cd_law_rows_right ct_law_rows_right : Value}
    {od_law an_law : Option Addr} {sl_law : Array (Option Value)} {oc_law kV_law dc_law pm_law cd_law ct_law : Value}
    (aC_Book : PySem.W.nsIn K mainGlobals "Book" = some (some (.ref C_Book)))
    (pg_Book : PySem.W.plainGet K C_Book Str.empty = true)
    (hd_Book : PySem.W.hasDictIn K C_Book = true)
    (po_Book : PySem.W.plainOver K C_Book = true)
    (sa_Book : PySem.W.findIn K (.ref C_Book) "__setattr__" = some (some (.builtin "object.__setattr__")))
    (ms_Book : PySem.W.makesIn K C_Book = true)
    (kc_Book : PySem.W.keepIn K (.ref C_Book) = true)
    (n_Book_tasks : PySem.W.findIn K (.ref C_Book) "_tasks" = some none)
    (n_Book_rules : PySem.W.findIn K (.ref C_Book) "_rules" = some none)
    (aC_DoubleName : PySem.W.nsIn K mainGlobals "DoubleName" = some (some (.ref C_DoubleName)))
    (eC_DoubleName : PySem.W.subIn K (.ref C_DoubleName) (.type "BaseException") = some true)
    (tC_DoubleName : PySem.W.typeIn K (.ref C_DoubleName) = some (.type "type"))
    (hC_DoubleName : PySem.W.hasDictIn K C_DoubleName = true)
    (xL_DoubleName : K.lookup C_DoubleName = some (excClassObj nm_DoubleName q_DoubleName C_DoubleName N_DoubleName bs_DoubleName [.ref C_PlanError, .type "ValueError", .type "Exception", .type "BaseException", .type "object"] true sn_DoubleName sub_DoubleName ab_DoubleName col_DoubleName dd_DoubleName k0_DoubleName k1_DoubleName k2_DoubleName k3_DoubleName k5_DoubleName "ValueError.__new__"))
    (sa_DoubleName : PySem.W.findIn K (.ref C_DoubleName) "__setattr__" = some (some (.builtin "object.__setattr__")))
    (ga_DoubleName : PySem.W.findIn K (.ref C_DoubleName) "__getattribute__" = some (some (.builtin "BaseException.__getattribute__")))
    (gt_DoubleName : PySem.W.findIn K (.ref C_DoubleName) "__getattr__" = some none)
    (nv_DoubleName : PySem.W.findIn K (.ref C_DoubleName) "value" = some none)
    (ic_DoubleName : PySem.W.findIn K (.ref C_DoubleName) "__init__" = some (some (.ref f_PlanError_init)))
    (kC_DoubleName : PySem.W.keepIn K (.ref C_DoubleName) = true)
    (aC_PlanError : PySem.W.nsIn K mainGlobals "PlanError" = some (some (.ref C_PlanError)))
    (eC_PlanError : PySem.W.subIn K (.ref C_PlanError) (.type "BaseException") = some true)
    (tC_PlanError : PySem.W.typeIn K (.ref C_PlanError) = some (.type "type"))
    (hC_PlanError : PySem.W.hasDictIn K C_PlanError = true)
    (ti : PySem.W.typeIn K (.ref f_PlanError_init) = some (.type "function"))
    (ga__TASKS_IN : PySem.W.nsIn K mainGlobals "_TASKS_IN" = some (some (.ref d__TASKS_IN)))
    (gl__TASKS_IN : K.lookup d__TASKS_IN = some ⟨.type "dict", none, .dict e__TASKS_IN i__TASKS_IN, #[]⟩)
    (gk__TASKS_IN : PySem.W.KeysLit w.params e__TASKS_IN.toList)
    (gs__TASKS_IN : (d__TASKS_IN == sysModules) = false)
    (gv__TASKS_IN_before : PySem.W.nsIn K d__TASKS_IN "before" = some (some (.int 2 t__TASKS_IN_before)))
    (gv__TASKS_IN_upto : PySem.W.nsIn K d__TASKS_IN "upto" = some (some (.int 2 t__TASKS_IN_upto)))
    (gv__TASKS_IN_same : PySem.W.nsIn K d__TASKS_IN "same" = some (some (.int 2 t__TASKS_IN_same)))
    (gv__TASKS_IN_apart : PySem.W.nsIn K d__TASKS_IN "apart" = some (some (.int 2 t__TASKS_IN_apart)))
    (gv__TASKS_IN_far : PySem.W.nsIn K d__TASKS_IN "far" = some (some (.int 2 t__TASKS_IN_far)))
    (gv__TASKS_IN_next : PySem.W.nsIn K d__TASKS_IN "next" = some (some (.int 2 t__TASKS_IN_next)))
    (gv__TASKS_IN_first : PySem.W.nsIn K d__TASKS_IN "first" = some (some (.int 1 t__TASKS_IN_first)))
    (gv__TASKS_IN_last : PySem.W.nsIn K d__TASKS_IN "last" = some (some (.int 1 t__TASKS_IN_last)))
    (ga__OTHER_END : PySem.W.nsIn K mainGlobals "_OTHER_END" = some (some (.ref d__OTHER_END)))
    (gl__OTHER_END : K.lookup d__OTHER_END = some ⟨.type "dict", none, .dict e__OTHER_END i__OTHER_END, #[]⟩)
    (gk__OTHER_END : PySem.W.KeysLit w.params e__OTHER_END.toList)
    (gs__OTHER_END : (d__OTHER_END == sysModules) = false)
    (gv__OTHER_END_first : PySem.W.nsIn K d__OTHER_END "first" = some (some (.str "last" t__OTHER_END_first)))
    (gv__OTHER_END_last : PySem.W.nsIn K d__OTHER_END "last" = some (some (.str "first" t__OTHER_END_last)))
    (gv__OTHER_END_same : PySem.W.nsIn K d__OTHER_END "same" = some none)
    (gv__OTHER_END_apart : PySem.W.nsIn K d__OTHER_END "apart" = some none)
    (ga__EXCHANGED : PySem.W.nsIn K mainGlobals "_EXCHANGED" = some (some (.ref d__EXCHANGED)))
    (gl__EXCHANGED : K.lookup d__EXCHANGED = some ⟨.type "dict", none, .dict e__EXCHANGED i__EXCHANGED, #[]⟩)
    (gk__EXCHANGED : PySem.W.KeysLit w.params e__EXCHANGED.toList)
    (gs__EXCHANGED : (d__EXCHANGED == sysModules) = false)
    (gv__EXCHANGED_before : PySem.W.nsIn K d__EXCHANGED "before" = some (some (.str "upto" t__EXCHANGED_before)))
    (gv__EXCHANGED_upto : PySem.W.nsIn K d__EXCHANGED "upto" = some (some (.str "before" t__EXCHANGED_upto)))
    (gv__EXCHANGED_same : PySem.W.nsIn K d__EXCHANGED "same" = some none)
    (gv__EXCHANGED_apart : PySem.W.nsIn K d__EXCHANGED "apart" = some none)
    (gv__EXCHANGED_far : PySem.W.nsIn K d__EXCHANGED "far" = some none)
    (gv__EXCHANGED_next : PySem.W.nsIn K d__EXCHANGED "next" = some none)
    (gv__EXCHANGED_first : PySem.W.nsIn K d__EXCHANGED "first" = some none)
    (gv__EXCHANGED_last : PySem.W.nsIn K d__EXCHANGED "last" = some none)
    (ga__DIRECTED : PySem.W.nsIn K mainGlobals "_DIRECTED" = some (some (.ref d__DIRECTED)))
    (gl__DIRECTED : K.lookup d__DIRECTED = some ⟨.type "tuple", od__DIRECTED, .seq #[.str "before" t__DIRECTED_0, .str "upto" t__DIRECTED_1, .str "far" t__DIRECTED_2, .str "next" t__DIRECTED_3] i__DIRECTED, sl__DIRECTED⟩)
    (gv__LONGEST_NAME : PySem.W.nsIn K mainGlobals "_LONGEST_NAME" = some (some (.int 8 t__LONGEST_NAME)))
    (l_PlanError_init : K.lookup f_PlanError_init = some ⟨oc_PlanError_init, od_PlanError_init, .func (PySem.W.fnOf "__init__" "PlanError.__init__" (defArgs s_PlanError_init) (defBody s_PlanError_init) (defScope s_PlanError_init) .none kV_PlanError_init dc_PlanError_init pm_PlanError_init an_PlanError_init cd_PlanError_init ct_PlanError_init), sl_PlanError_init⟩)
    (c_PlanError_init : PySem.W.codeIn K cd_PlanError_init "PlanError.__init__" = true)
    (k_PlanError_init : PySem.W.keepIn K (.ref f_PlanError_init) = true)
    (a_is_name : PySem.W.nsIn K mainGlobals "_is_name" = some (some (.ref f_is_name)))
    (l_is_name : K.lookup f_is_name = some ⟨oc_is_name, od_is_name, .func (PySem.W.fnOf "_is_name" "_is_name" (defArgs s_is_name) (defBody s_is_name) (defScope s_is_name) .none kV_is_name dc_is_name pm_is_name an_is_name cd_is_name ct_is_name), sl_is_name⟩)
    (c_is_name : PySem.W.codeIn K cd_is_name "_is_name" = true)
    (k_is_name : PySem.W.keepIn K (.ref f_is_name) = true)
    (a_check_tasks : PySem.W.nsIn K mainGlobals "_check_tasks" = some (some (.ref f_check_tasks)))
    (l_check_tasks : K.lookup f_check_tasks = some ⟨oc_check_tasks, od_check_tasks, .func (PySem.W.fnOf "_check_tasks" "_check_tasks" (defArgs s_check_tasks) (defBody s_check_tasks) (defScope s_check_tasks) .none kV_check_tasks dc_check_tasks pm_check_tasks an_check_tasks cd_check_tasks ct_check_tasks), sl_check_tasks⟩)
    (c_check_tasks : PySem.W.codeIn K cd_check_tasks "_check_tasks" = true)
    (k_check_tasks : PySem.W.keepIn K (.ref f_check_tasks) = true)
    (a_check_rule : PySem.W.nsIn K mainGlobals "_check_rule" = some (some (.ref f_check_rule)))
    (l_check_rule : K.lookup f_check_rule = some ⟨oc_check_rule, od_check_rule, .func (PySem.W.fnOf "_check_rule" "_check_rule" (defArgs s_check_rule) (defBody s_check_rule) (defScope s_check_rule) .none kV_check_rule dc_check_rule pm_check_rule an_check_rule cd_check_rule ct_check_rule), sl_check_rule⟩)
    (c_check_rule : PySem.W.codeIn K cd_check_rule "_check_rule" = true)
    (k_check_rule : PySem.W.keepIn K (.ref f_check_rule) = true)
    (a_is_kept : PySem.W.nsIn K mainGlobals "is_kept" = some (some (.ref f_is_kept)))
    (l_is_kept : K.lookup f_is_kept = some ⟨oc_is_kept, od_is_kept, .func (PySem.W.fnOf "is_kept" "is_kept" (defArgs s_is_kept) (defBody s_is_kept) (defScope s_is_kept) .none kV_is_kept dc_is_kept pm_is_kept an_is_kept cd_is_kept ct_is_kept), sl_is_kept⟩)
    (c_is_kept : PySem.W.codeIn K cd_is_kept "is_kept" = true)
    (k_is_kept : PySem.W.keepIn K (.ref f_is_kept) = true)
    (a_turned : PySem.W.nsIn K mainGlobals "_turned" = some (some (.ref f_turned)))
    (l_turned : K.lookup f_turned = some ⟨oc_turned, od_turned, .func (PySem.W.fnOf "_turned" "_turned" (defArgs s_turned) (defBody s_turned) (defScope s_turned) .none kV_turned dc_turned pm_turned an_turned cd_turned ct_turned), sl_turned⟩)
    (c_turned : PySem.W.codeIn K cd_turned "_turned" = true)
    (k_turned : PySem.W.keepIn K (.ref f_turned) = true)
    (a_exchanged : PySem.W.nsIn K mainGlobals "_exchanged" = some (some (.ref f_exchanged)))
    (l_exchanged : K.lookup f_exchanged = some ⟨oc_exchanged, od_exchanged, .func (PySem.W.fnOf "_exchanged" "_exchanged" (defArgs s_exchanged) (defBody s_exchanged) (defScope s_exchanged) .none kV_exchanged dc_exchanged pm_exchanged an_exchanged cd_exchanged ct_exchanged), sl_exchanged⟩)
    (c_exchanged : PySem.W.codeIn K cd_exchanged "_exchanged" = true)
    (k_exchanged : PySem.W.keepIn K (.ref f_exchanged) = true)
    (a_Book_init : PySem.W.findIn K (.ref C_Book) "__init__" = some (some (.ref f_Book_init)))
    (i_Book_init : PySem.W.isFn K (.ref f_Book_init) = true)
    (l_Book_init : K.lookup f_Book_init = some ⟨oc_Book_init, od_Book_init, .func (PySem.W.fnOf "__init__" "Book.__init__" (defArgs s_Book_init) (defBody s_Book_init) (defScope s_Book_init) .none kV_Book_init dc_Book_init pm_Book_init an_Book_init cd_Book_init ct_Book_init), sl_Book_init⟩)
    (c_Book_init : PySem.W.codeIn K cd_Book_init "Book.__init__" = true)
    (k_Book_init : PySem.W.keepIn K (.ref f_Book_init) = true)
    (a_Book_tasks : PySem.W.findIn K (.ref C_Book) "tasks" = some (some (.ref p_Book_tasks)))
    (ps_Book_tasks : PySem.W.specialIn K (.ref p_Book_tasks) "__get__" = some (some (.builtin "property.__get__")))
    (pt_Book_tasks : PySem.W.takesIn K (.ref p_Book_tasks) = some true)
    (pr_Book_tasks : PySem.W.recIn K p_Book_tasks "property" = some (.ref f_Book_tasks :: r_Book_tasks))
    (l_Book_tasks : K.lookup f_Book_tasks = some ⟨oc_Book_tasks, od_Book_tasks, .func (PySem.W.fnOf "tasks" "Book.tasks" (defArgs s_Book_tasks) (defBody s_Book_tasks) (defScope s_Book_tasks) .none kV_Book_tasks dc_Book_tasks pm_Book_tasks an_Book_tasks cd_Book_tasks ct_Book_tasks), sl_Book_tasks⟩)
    (c_Book_tasks : PySem.W.codeIn K cd_Book_tasks "Book.tasks" = true)
    (k_Book_tasks : PySem.W.keepIn K (.ref f_Book_tasks) = true)
    (a_Book_rules : PySem.W.findIn K (.ref C_Book) "rules" = some (some (.ref p_Book_rules)))
    (ps_Book_rules : PySem.W.specialIn K (.ref p_Book_rules) "__get__" = some (some (.builtin "property.__get__")))
    (pt_Book_rules : PySem.W.takesIn K (.ref p_Book_rules) = some true)
    (pr_Book_rules : PySem.W.recIn K p_Book_rules "property" = some (.ref f_Book_rules :: r_Book_rules))
    (l_Book_rules : K.lookup f_Book_rules = some ⟨oc_Book_rules, od_Book_rules, .func (PySem.W.fnOf "rules" "Book.rules" (defArgs s_Book_rules) (defBody s_Book_rules) (defScope s_Book_rules) .none kV_Book_rules dc_Book_rules pm_Book_rules an_Book_rules cd_Book_rules ct_Book_rules), sl_Book_rules⟩)
    (c_Book_rules : PySem.W.codeIn K cd_Book_rules "Book.rules" = true)
    (k_Book_rules : PySem.W.keepIn K (.ref f_Book_rules) = true)
    (a_Book_keeps : PySem.W.findIn K (.ref C_Book) "keeps" = some (some (.ref f_Book_keeps)))
    (i_Book_keeps : PySem.W.isFn K (.ref f_Book_keeps) = true)
    (l_Book_keeps : K.lookup f_Book_keeps = some ⟨oc_Book_keeps, od_Book_keeps, .func (PySem.W.fnOf "keeps" "Book.keeps" (defArgs s_Book_keeps) (defBody s_Book_keeps) (defScope s_Book_keeps) .none kV_Book_keeps dc_Book_keeps pm_Book_keeps an_Book_keeps cd_Book_keeps ct_Book_keeps), sl_Book_keeps⟩)
    (c_Book_keeps : PySem.W.codeIn K cd_Book_keeps "Book.keeps" = true)
    (k_Book_keeps : PySem.W.keepIn K (.ref f_Book_keeps) = true)
    (a_Book_with_rules : PySem.W.findIn K (.ref C_Book) "with_rules" = some (some (.ref f_Book_with_rules)))
    (i_Book_with_rules : PySem.W.isFn K (.ref f_Book_with_rules) = true)
    (l_Book_with_rules : K.lookup f_Book_with_rules = some ⟨oc_Book_with_rules, od_Book_with_rules, .func (PySem.W.fnOf "with_rules" "Book.with_rules" (defArgs s_Book_with_rules) (defBody s_Book_with_rules) (defScope s_Book_with_rules) .none kV_Book_with_rules dc_Book_with_rules pm_Book_with_rules an_Book_with_rules cd_Book_with_rules ct_Book_with_rules), sl_Book_with_rules⟩)
    (c_Book_with_rules : PySem.W.codeIn K cd_Book_with_rules "Book.with_rules" = true)
    (k_Book_with_rules : PySem.W.keepIn K (.ref f_Book_with_rules) = true)
    (a_Book_without : PySem.W.findIn K (.ref C_Book) "without" = some (some (.ref f_Book_without)))
    (i_Book_without : PySem.W.isFn K (.ref f_Book_without) = true)
    (l_Book_without : K.lookup f_Book_without = some ⟨oc_Book_without, od_Book_without, .func (PySem.W.fnOf "without" "Book.without" (defArgs s_Book_without) (defBody s_Book_without) (defScope s_Book_without) .none kV_Book_without dc_Book_without pm_Book_without an_Book_without cd_Book_without ct_Book_without), sl_Book_without⟩)
    (c_Book_without : PySem.W.codeIn K cd_Book_without "Book.without" = true)
    (k_Book_without : PySem.W.keepIn K (.ref f_Book_without) = true)
    (a_Book_beside : PySem.W.findIn K (.ref C_Book) "beside" = some (some (.ref f_Book_beside)))
    (i_Book_beside : PySem.W.isFn K (.ref f_Book_beside) = true)
    (l_Book_beside : K.lookup f_Book_beside = some ⟨oc_Book_beside, od_Book_beside, .func (PySem.W.fnOf "beside" "Book.beside" (defArgs s_Book_beside) (defBody s_Book_beside) (defScope s_Book_beside) .none kV_Book_beside dc_Book_beside pm_Book_beside an_Book_beside cd_Book_beside ct_Book_beside), sl_Book_beside⟩)
    (c_Book_beside : PySem.W.codeIn K cd_Book_beside "Book.beside" = true)
    (k_Book_beside : PySem.W.keepIn K (.ref f_Book_beside) = true)
    (a_Book_then : PySem.W.findIn K (.ref C_Book) "then" = some (some (.ref f_Book_then)))
    (i_Book_then : PySem.W.isFn K (.ref f_Book_then) = true)
    (l_Book_then : K.lookup f_Book_then = some ⟨oc_Book_then, od_Book_then, .func (PySem.W.fnOf "then" "Book.then" (defArgs s_Book_then) (defBody s_Book_then) (defScope s_Book_then) .none kV_Book_then dc_Book_then pm_Book_then an_Book_then cd_Book_then ct_Book_then), sl_Book_then⟩)
    (c_Book_then : PySem.W.codeIn K cd_Book_then "Book.then" = true)
    (k_Book_then : PySem.W.keepIn K (.ref f_Book_then) = true)
    (a_Book_turned : PySem.W.findIn K (.ref C_Book) "turned" = some (some (.ref f_Book_turned)))
    (i_Book_turned : PySem.W.isFn K (.ref f_Book_turned) = true)
    (l_Book_turned : K.lookup f_Book_turned = some ⟨oc_Book_turned, od_Book_turned, .func (PySem.W.fnOf "turned" "Book.turned" (defArgs s_Book_turned) (defBody s_Book_turned) (defScope s_Book_turned) .none kV_Book_turned dc_Book_turned pm_Book_turned an_Book_turned cd_Book_turned ct_Book_turned), sl_Book_turned⟩)
    (c_Book_turned : PySem.W.codeIn K cd_Book_turned "Book.turned" = true)
    (k_Book_turned : PySem.W.keepIn K (.ref f_Book_turned) = true)
    (a_Book_exchanged : PySem.W.findIn K (.ref C_Book) "exchanged" = some (some (.ref f_Book_exchanged)))
    (i_Book_exchanged : PySem.W.isFn K (.ref f_Book_exchanged) = true)
    (l_Book_exchanged : K.lookup f_Book_exchanged = some ⟨oc_Book_exchanged, od_Book_exchanged, .func (PySem.W.fnOf "exchanged" "Book.exchanged" (defArgs s_Book_exchanged) (defBody s_Book_exchanged) (defScope s_Book_exchanged) .none kV_Book_exchanged dc_Book_exchanged pm_Book_exchanged an_Book_exchanged cd_Book_exchanged ct_Book_exchanged), sl_Book_exchanged⟩)
    (c_Book_exchanged : PySem.W.codeIn K cd_Book_exchanged "Book.exchanged" = true)
    (k_Book_exchanged : PySem.W.keepIn K (.ref f_Book_exchanged) = true)
    (a_Book_and : PySem.W.findIn K (.ref C_Book) "__and__" = some (some (.ref f_Book_and)))
    (i_Book_and : PySem.W.isFn K (.ref f_Book_and) = true)
    (l_Book_and : K.lookup f_Book_and = some ⟨oc_Book_and, od_Book_and, .func (PySem.W.fnOf "__and__" "Book.__and__" (defArgs s_Book_and) (defBody s_Book_and) (defScope s_Book_and) .none kV_Book_and dc_Book_and pm_Book_and an_Book_and cd_Book_and ct_Book_and), sl_Book_and⟩)
    (c_Book_and : PySem.W.codeIn K cd_Book_and "Book.__and__" = true)
    (k_Book_and : PySem.W.keepIn K (.ref f_Book_and) = true)
    (a_Book_len : PySem.W.findIn K (.ref C_Book) "__len__" = some (some (.ref f_Book_len)))
    (i_Book_len : PySem.W.isFn K (.ref f_Book_len) = true)
    (l_Book_len : K.lookup f_Book_len = some ⟨oc_Book_len, od_Book_len, .func (PySem.W.fnOf "__len__" "Book.__len__" (defArgs s_Book_len) (defBody s_Book_len) (defScope s_Book_len) .none kV_Book_len dc_Book_len pm_Book_len an_Book_len cd_Book_len ct_Book_len), sl_Book_len⟩)
    (c_Book_len : PySem.W.codeIn K cd_Book_len "Book.__len__" = true)
    (k_Book_len : PySem.W.keepIn K (.ref f_Book_len) = true)
    (a_Book_eq : PySem.W.findIn K (.ref C_Book) "__eq__" = some (some (.ref f_Book_eq)))
    (i_Book_eq : PySem.W.isFn K (.ref f_Book_eq) = true)
    (l_Book_eq : K.lookup f_Book_eq = some ⟨oc_Book_eq, od_Book_eq, .func (PySem.W.fnOf "__eq__" "Book.__eq__" (defArgs s_Book_eq) (defBody s_Book_eq) (defScope s_Book_eq) .none kV_Book_eq dc_Book_eq pm_Book_eq an_Book_eq cd_Book_eq ct_Book_eq), sl_Book_eq⟩)
    (c_Book_eq : PySem.W.codeIn K cd_Book_eq "Book.__eq__" = true)
    (k_Book_eq : PySem.W.keepIn K (.ref f_Book_eq) = true)
    (a_law_deck : PySem.W.nsIn K mainGlobals "_law_deck" = some (some (.ref f_law_deck)))
    (l_law_deck : K.lookup f_law_deck = some ⟨oc_law_deck, od_law_deck, .func (PySem.W.fnOf "_law_deck" "_law_deck" (defArgs s_law_deck) (defBody s_law_deck) (defScope s_law_deck) .none kV_law_deck dc_law_deck pm_law_deck an_law_deck cd_law_deck ct_law_deck), sl_law_deck⟩)
    (c_law_deck : PySem.W.codeIn K cd_law_deck "_law_deck" = true)
    (k_law_deck : PySem.W.keepIn K (.ref f_law_deck) = true)
    (a_law_draw : PySem.W.nsIn K mainGlobals "_law_draw" = some (some (.ref f_law_draw)))
    (l_law_draw : K.lookup f_law_draw = some ⟨oc_law_draw, od_law_draw, .func (PySem.W.fnOf "_law_draw" "_law_draw" (defArgs s_law_draw) (defBody s_law_draw) (defScope s_law_draw) .none kV_law_draw dc_law_draw pm_law_draw an_law_draw cd_law_draw ct_law_draw), sl_law_draw⟩)
    (c_law_draw : PySem.W.codeIn K cd_law_draw "_law_draw" = true)
    (k_law_draw : PySem.W.keepIn K (.ref f_law_draw) = true)
    (a_law_names : PySem.W.nsIn K mainGlobals "_law_names" = some (some (.ref f_law_names)))
    (l_law_names : K.lookup f_law_names = some ⟨oc_law_names, od_law_names, .func (PySem.W.fnOf "_law_names" "_law_names" (defArgs s_law_names) (defBody s_law_names) (defScope s_law_names) .none kV_law_names dc_law_names pm_law_names an_law_names cd_law_names ct_law_names), sl_law_names⟩)
    (c_law_names : PySem.W.codeIn K cd_law_names "_law_names" = true)
    (k_law_names : PySem.W.keepIn K (.ref f_law_names) = true)
    (a_law_rule : PySem.W.nsIn K mainGlobals "_law_rule" = some (some (.ref f_law_rule)))
    (l_law_rule : K.lookup f_law_rule = some ⟨oc_law_rule, od_law_rule, .func (PySem.W.fnOf "_law_rule" "_law_rule" (defArgs s_law_rule) (defBody s_law_rule) (defScope s_law_rule) .none kV_law_rule dc_law_rule pm_law_rule an_law_rule cd_law_rule ct_law_rule), sl_law_rule⟩)
    (c_law_rule : PySem.W.codeIn K cd_law_rule "_law_rule" = true)
    (k_law_rule : PySem.W.keepIn K (.ref f_law_rule) = true)
    (a_law_great : PySem.W.nsIn K mainGlobals "_law_great" = some (some (.ref f_law_great)))
    (l_law_great : K.lookup f_law_great = some ⟨oc_law_great, od_law_great, .func (PySem.W.fnOf "_law_great" "_law_great" (defArgs s_law_great) (defBody s_law_great) (defScope s_law_great) .none kV_law_great dc_law_great pm_law_great an_law_great cd_law_great ct_law_great), sl_law_great⟩)
    (c_law_great : PySem.W.codeIn K cd_law_great "_law_great" = true)
    (k_law_great : PySem.W.keepIn K (.ref f_law_great) = true)
    (a_law_days : PySem.W.nsIn K mainGlobals "_law_days" = some (some (.ref f_law_days)))
    (l_law_days : K.lookup f_law_days = some ⟨oc_law_days, od_law_days, .func (PySem.W.fnOf "_law_days" "_law_days" (defArgs s_law_days) (defBody s_law_days) (defScope s_law_days) .none kV_law_days dc_law_days pm_law_days an_law_days cd_law_days ct_law_days), sl_law_days⟩)
    (c_law_days : PySem.W.codeIn K cd_law_days "_law_days" = true)
    (k_law_days : PySem.W.keepIn K (.ref f_law_days) = true)
    (a_law_number : PySem.W.nsIn K mainGlobals "_law_number" = some (some (.ref f_law_number)))
    (l_law_number : K.lookup f_law_number = some ⟨oc_law_number, od_law_number, .func (PySem.W.fnOf "_law_number" "_law_number" (defArgs s_law_number) (defBody s_law_number) (defScope s_law_number) .none kV_law_number dc_law_number pm_law_number an_law_number cd_law_number ct_law_number), sl_law_number⟩)
    (c_law_number : PySem.W.codeIn K cd_law_number "_law_number" = true)
    (k_law_number : PySem.W.keepIn K (.ref f_law_number) = true)
    (a_law_kept : PySem.W.nsIn K mainGlobals "_law_kept" = some (some (.ref f_law_kept)))
    (l_law_kept : K.lookup f_law_kept = some ⟨oc_law_kept, od_law_kept, .func (PySem.W.fnOf "_law_kept" "_law_kept" (defArgs s_law_kept) (defBody s_law_kept) (defScope s_law_kept) .none kV_law_kept dc_law_kept pm_law_kept an_law_kept cd_law_kept ct_law_kept), sl_law_kept⟩)
    (c_law_kept : PySem.W.codeIn K cd_law_kept "_law_kept" = true)
    (k_law_kept : PySem.W.keepIn K (.ref f_law_kept) = true)
    (a_law_is_plan : PySem.W.nsIn K mainGlobals "_law_is_plan" = some (some (.ref f_law_is_plan)))
    (l_law_is_plan : K.lookup f_law_is_plan = some ⟨oc_law_is_plan, od_law_is_plan, .func (PySem.W.fnOf "_law_is_plan" "_law_is_plan" (defArgs s_law_is_plan) (defBody s_law_is_plan) (defScope s_law_is_plan) .none kV_law_is_plan dc_law_is_plan pm_law_is_plan an_law_is_plan cd_law_is_plan ct_law_is_plan), sl_law_is_plan⟩)
    (c_law_is_plan : PySem.W.codeIn K cd_law_is_plan "_law_is_plan" = true)
    (k_law_is_plan : PySem.W.keepIn K (.ref f_law_is_plan) = true)
    (a_law_backward : PySem.W.nsIn K mainGlobals "_law_backward" = some (some (.ref f_law_backward)))
    (l_law_backward : K.lookup f_law_backward = some ⟨oc_law_backward, od_law_backward, .func (PySem.W.fnOf "_law_backward" "_law_backward" (defArgs s_law_backward) (defBody s_law_backward) (defScope s_law_backward) .none kV_law_backward dc_law_backward pm_law_backward an_law_backward cd_law_backward ct_law_backward), sl_law_backward⟩)
    (c_law_backward : PySem.W.codeIn K cd_law_backward "_law_backward" = true)
    (k_law_backward : PySem.W.keepIn K (.ref f_law_backward) = true)
    (a_law_order : PySem.W.nsIn K mainGlobals "_law_order" = some (some (.ref f_law_order)))
    (l_law_order : K.lookup f_law_order = some ⟨oc_law_order, od_law_order, .func (PySem.W.fnOf "_law_order" "_law_order" (defArgs s_law_order) (defBody s_law_order) (defScope s_law_order) .none kV_law_order dc_law_order pm_law_order an_law_order cd_law_order ct_law_order), sl_law_order⟩)
    (c_law_order : PySem.W.codeIn K cd_law_order "_law_order" = true)
    (k_law_order : PySem.W.keepIn K (.ref f_law_order) = true)
    (a_law_equal : PySem.W.nsIn K mainGlobals "_law_equal" = some (some (.ref f_law_equal)))
    (l_law_equal : K.lookup f_law_equal = some ⟨oc_law_equal, od_law_equal, .func (PySem.W.fnOf "_law_equal" "_law_equal" (defArgs s_law_equal) (defBody s_law_equal) (defScope s_law_equal) .none kV_law_equal dc_law_equal pm_law_equal an_law_equal cd_law_equal ct_law_equal), sl_law_equal⟩)
    (c_law_equal : PySem.W.codeIn K cd_law_equal "_law_equal" = true)
    (k_law_equal : PySem.W.keepIn K (.ref f_law_equal) = true)
    (a_law_pairs_right : PySem.W.nsIn K mainGlobals "_law_pairs_right" = some (some (.ref f_law_pairs_right)))
    (l_law_pairs_right : K.lookup f_law_pairs_right = some ⟨oc_law_pairs_right, od_law_pairs_right, .func (PySem.W.fnOf "_law_pairs_right" "_law_pairs_right" (defArgs s_law_pairs_right) (defBody s_law_pairs_right) (defScope s_law_pairs_right) .none kV_law_pairs_right dc_law_pairs_right pm_law_pairs_right an_law_pairs_right cd_law_pairs_right ct_law_pairs_right), sl_law_pairs_right⟩)
    (c_law_pairs_right : PySem.W.codeIn K cd_law_pairs_right "_law_pairs_right" = true)
    (k_law_pairs_right : PySem.W.keepIn K (.ref f_law_pairs_right) = true)
    (a_law_due : PySem.W.nsIn K mainGlobals "_law_due" = some (some (.ref f_law_due)))
    (l_law_due : K.lookup f_law_due = some ⟨oc_law_due, od_law_due, .func (PySem.W.fnOf "_law_due" "_law_due" (defArgs s_law_due) (defBody s_law_due) (defScope s_law_due) .none kV_law_due dc_law_due pm_law_due an_law_due cd_law_due ct_law_due), sl_law_due⟩)
    (c_law_due : PySem.W.codeIn K cd_law_due "_law_due" = true)
    (k_law_due : PySem.W.keepIn K (.ref f_law_due) = true)
    (a_law_rows_right : PySem.W.nsIn K mainGlobals "_law_rows_right" = some (some (.ref f_law_rows_right)))
    (l_law_rows_right : K.lookup f_law_rows_right = some ⟨oc_law_rows_right, od_law_rows_right, .func (PySem.W.fnOf "_law_rows_right" "_law_rows_right" (defArgs s_law_rows_right) (defBody s_law_rows_right) (defScope s_law_rows_right) .none kV_law_rows_right dc_law_rows_right pm_law_rows_right an_law_rows_right cd_law_rows_right ct_law_rows_right), sl_law_rows_right⟩)
    (c_law_rows_right : PySem.W.codeIn K cd_law_rows_right "_law_rows_right" = true)
    (k_law_rows_right : PySem.W.keepIn K (.ref f_law_rows_right) = true)
    (a_law : PySem.W.nsIn K mainGlobals "law" = some (some (.ref f_law)))
    (l_law : K.lookup f_law = some ⟨oc_law, od_law, .func (PySem.W.fnOf "law" "law" (defArgs s_law) (defBody s_law) (defScope s_law) .none kV_law dc_law pm_law an_law cd_law ct_law), sl_law⟩)
    (c_law : PySem.W.codeIn K cd_law "law" = true)
    (k_law : PySem.W.keepIn K (.ref f_law) = true)
    (z_all : PySem.W.nsIn K mainGlobals "all" = some none)
    (z_dict : PySem.W.nsIn K mainGlobals "dict" = some none)
    (z_int : PySem.W.nsIn K mainGlobals "int" = some none)
    (z_isinstance : PySem.W.nsIn K mainGlobals "isinstance" = some none)
    (z_len : PySem.W.nsIn K mainGlobals "len" = some none)
    (z_list : PySem.W.nsIn K mainGlobals "list" = some none)
    (z_max : PySem.W.nsIn K mainGlobals "max" = some none)
    (z_min : PySem.W.nsIn K mainGlobals "min" = some none)
    (z_range : PySem.W.nsIn K mainGlobals "range" = some none)
    (z_sorted : PySem.W.nsIn K mainGlobals "sorted" = some none)
    (z_sum : PySem.W.nsIn K mainGlobals "sum" = some none)
    (z_zip : PySem.W.nsIn K mainGlobals "zip" = some none)
    (xa_Book : PySem.W.findIn K (.ref C_Book) "__class__" = some (some (.builtin "object.__class__")))
    (xn_Book : PySem.W.specialIn K (.builtin "object.__class__") "__get__" = some (some (.builtin "getset_descriptor.__get__")))
    (xt_Book : PySem.W.takesIn K (.builtin "object.__class__") = some true)
    (xm_Book : PySem.W.mroIn K C_Book (.type "object") = some true)
    (tc_Book : PySem.W.typeIn K (.ref C_Book) = some (.type "type"))
    (ne_Book : PySem.W.findIn K (.ref C_Book) "__ne__" = some (some (.builtin "object.__ne__")))
    (z0_Book : PySem.W.mroIn K C_Book (.type "NoneType") = some false)
    (z1_Book : PySem.W.mroIn K C_Book (.type "int") = some false)
    (z2_Book : PySem.W.mroIn K C_Book (.type "str") = some false)
    (z3_Book : PySem.W.mroIn K C_Book (.type "list") = some false)
    (z4_Book : PySem.W.mroIn K C_Book (.type "tuple") = some false)
    (sf_Book : PySem.W.selfFirst K C_Book = true)
    : ∃ fd : FuncData, (∀ (s : Shared) (v : Value), BindsTo s fd ⟨[v], []⟩ [("script", v)]) ∧ ∀ base : Heap, K.In base → base.Ns mainGlobals mg → FnOk l.prog w K mg base CX0 10 fa fd ["script"] (spLaw K) := by
  have e := hfa.symm.trans (PySem.W.mg_of X G a_law)
  cases e
  have F_PlanError_init := fun_mk (st := s_PlanError_init) l_PlanError_init c_PlanError_init k_PlanError_init
  have b_PlanError_init := F_PlanError_init.binds (ps := ["self", "value"]) fun _ _ _ _ _ _ us hl => match us, hl with | [_, _], _ => rfl
  have F_is_name := fun_mk (st := s_is_name) l_is_name c_is_name k_is_name
  have b_is_name := F_is_name.binds (ps := ["text"]) fun _ _ _ _ _ _ us hl => match us, hl with | [_], _ => rfl
  have F_check_tasks := fun_mk (st := s_check_tasks) l_check_tasks c_check_tasks k_check_tasks
  have b_check_tasks := F_check_tasks.binds (ps := ["tasks"]) fun _ _ _ _ _ _ us hl => match us, hl with | [_], _ => rfl
  have F_check_rule := fun_mk (st := s_check_rule) l_check_rule c_check_rule k_check_rule
  have b_check_rule := F_check_rule.binds (ps := ["rule", "tasks"]) fun _ _ _ _ _ _ us hl => match us, hl with | [_, _], _ => rfl
  have F_is_kept := fun_mk (st := s_is_kept) l_is_kept c_is_kept k_is_kept
  have b_is_kept := F_is_kept.binds (ps := ["rule", "n", "days"]) fun _ _ _ _ _ _ us hl => match us, hl with | [_, _, _], _ => rfl
  have F_turned := fun_mk (st := s_turned) l_turned c_turned k_turned
  have b_turned := F_turned.binds (ps := ["rule"]) fun _ _ _ _ _ _ us hl => match us, hl with | [_], _ => rfl
  have F_exchanged := fun_mk (st := s_exchanged) l_exchanged c_exchanged k_exchanged
  have b_exchanged := F_exchanged.binds (ps := ["rule"]) fun _ _ _ _ _ _ us hl => match us, hl with | [_], _ => rfl
  have F_Book_init := fun_mk (st := s_Book_init) l_Book_init c_Book_init k_Book_init
  have b_Book_init := F_Book_init.binds (ps := ["self", "tasks", "rules"]) fun _ _ _ _ _ _ us hl => match us, hl with | [_, _, _], _ => rfl
  have F_Book_tasks := fun_mk (st := s_Book_tasks) l_Book_tasks c_Book_tasks k_Book_tasks
  have b_Book_tasks := F_Book_tasks.binds (ps := ["self"]) fun _ _ _ _ _ _ us hl => match us, hl with | [_], _ => rfl
  have F_Book_rules := fun_mk (st := s_Book_rules) l_Book_rules c_Book_rules k_Book_rules
  have b_Book_rules := F_Book_rules.binds (ps := ["self"]) fun _ _ _ _ _ _ us hl => match us, hl with | [_], _ => rfl
  have F_Book_keeps := fun_mk (st := s_Book_keeps) l_Book_keeps c_Book_keeps k_Book_keeps
  have b_Book_keeps := F_Book_keeps.binds (ps := ["self", "n", "plan"]) fun _ _ _ _ _ _ us hl => match us, hl with | [_, _, _], _ => rfl
  have F_Book_with_rules := fun_mk (st := s_Book_with_rules) l_Book_with_rules c_Book_with_rules k_Book_with_rules
  have b_Book_with_rules := F_Book_with_rules.binds (ps := ["self", "rules"]) fun _ _ _ _ _ _ us hl => match us, hl with | [_, _], _ => rfl
  have F_Book_without := fun_mk (st := s_Book_without) l_Book_without c_Book_without k_Book_without
  have b_Book_without := F_Book_without.binds (ps := ["self", "index"]) fun _ _ _ _ _ _ us hl => match us, hl with | [_, _], _ => rfl
  have F_Book_beside := fun_mk (st := s_Book_beside) l_Book_beside c_Book_beside k_Book_beside
  have b_Book_beside := F_Book_beside.binds (ps := ["self", "other"]) fun _ _ _ _ _ _ us hl => match us, hl with | [_, _], _ => rfl
  have F_Book_then := fun_mk (st := s_Book_then) l_Book_then c_Book_then k_Book_then
  have b_Book_then := F_Book_then.binds (ps := ["self", "other"]) fun _ _ _ _ _ _ us hl => match us, hl with | [_, _], _ => rfl
  have F_Book_turned := fun_mk (st := s_Book_turned) l_Book_turned c_Book_turned k_Book_turned
  have b_Book_turned := F_Book_turned.binds (ps := ["self"]) fun _ _ _ _ _ _ us hl => match us, hl with | [_], _ => rfl
  have F_Book_exchanged := fun_mk (st := s_Book_exchanged) l_Book_exchanged c_Book_exchanged k_Book_exchanged
  have b_Book_exchanged := F_Book_exchanged.binds (ps := ["self"]) fun _ _ _ _ _ _ us hl => match us, hl with | [_], _ => rfl
  have F_Book_and := fun_mk (st := s_Book_and) l_Book_and c_Book_and k_Book_and
  have b_Book_and := F_Book_and.binds (ps := ["self", "other"]) fun _ _ _ _ _ _ us hl => match us, hl with | [_, _], _ => rfl
  have F_Book_len := fun_mk (st := s_Book_len) l_Book_len c_Book_len k_Book_len
  have b_Book_len := F_Book_len.binds (ps := ["self"]) fun _ _ _ _ _ _ us hl => match us, hl with | [_], _ => rfl
  have F_Book_eq := fun_mk (st := s_Book_eq) l_Book_eq c_Book_eq k_Book_eq
  have b_Book_eq := F_Book_eq.binds (ps := ["self", "other"]) fun _ _ _ _ _ _ us hl => match us, hl with | [_, _], _ => rfl
  have F_law_deck := fun_mk (st := s_law_deck) l_law_deck c_law_deck k_law_deck
  have b_law_deck := F_law_deck.binds (ps := ["script"]) fun _ _ _ _ _ _ us hl => match us, hl with | [_], _ => rfl
  have F_law_draw := fun_mk (st := s_law_draw) l_law_draw c_law_draw k_law_draw
  have b_law_draw := F_law_draw.binds (ps := ["deck", "many"]) fun _ _ _ _ _ _ us hl => match us, hl with | [_, _], _ => rfl
  have F_law_names := fun_mk (st := s_law_names) l_law_names c_law_names k_law_names
  have b_law_names := F_law_names.binds (ps := ["deck", "many"]) fun _ _ _ _ _ _ us hl => match us, hl with | [_, _], _ => rfl
  have F_law_rule := fun_mk (st := s_law_rule) l_law_rule c_law_rule k_law_rule
  have b_law_rule := F_law_rule.binds (ps := ["deck", "task_list"]) fun _ _ _ _ _ _ us hl => match us, hl with | [_, _], _ => rfl
  have F_law_great := fun_mk (st := s_law_great) l_law_great c_law_great k_law_great
  have b_law_great := F_law_great.binds (ps := ["deck", "many"]) fun _ _ _ _ _ _ us hl => match us, hl with | [_, _], _ => rfl
  have F_law_days := fun_mk (st := s_law_days) l_law_days c_law_days k_law_days
  have b_law_days := F_law_days.binds (ps := ["deck", "last_day", "many"]) fun _ _ _ _ _ _ us hl => match us, hl with | [_, _, _], _ => rfl
  have F_law_number := fun_mk (st := s_law_number) l_law_number c_law_number k_law_number
  have b_law_number := F_law_number.binds (ps := ["deck"]) fun _ _ _ _ _ _ us hl => match us, hl with | [_], _ => rfl
  have F_law_kept := fun_mk (st := s_law_kept) l_law_kept c_law_kept k_law_kept
  have b_law_kept := F_law_kept.binds (ps := ["rule", "task_list", "last_day", "days"]) fun _ _ _ _ _ _ us hl => match us, hl with | [_, _, _, _], _ => rfl
  have F_law_is_plan := fun_mk (st := s_law_is_plan) l_law_is_plan c_law_is_plan k_law_is_plan
  have b_law_is_plan := F_law_is_plan.binds (ps := ["task_list", "rule_list", "last_day", "days"]) fun _ _ _ _ _ _ us hl => match us, hl with | [_, _, _, _], _ => rfl
  have F_law_backward := fun_mk (st := s_law_backward) l_law_backward c_law_backward k_law_backward
  have b_law_backward := F_law_backward.binds (ps := ["rule"]) fun _ _ _ _ _ _ us hl => match us, hl with | [_], _ => rfl
  have F_law_order := fun_mk (st := s_law_order) l_law_order c_law_order k_law_order
  have b_law_order := F_law_order.binds (ps := ["deck", "many"]) fun _ _ _ _ _ _ us hl => match us, hl with | [_, _], _ => rfl
  have F_law_equal := fun_mk (st := s_law_equal) l_law_equal c_law_equal k_law_equal
  have b_law_equal := F_law_equal.binds (ps := ["one", "two"]) fun _ _ _ _ _ _ us hl => match us, hl with | [_, _], _ => rfl
  have F_law_pairs_right := fun_mk (st := s_law_pairs_right) l_law_pairs_right c_law_pairs_right k_law_pairs_right
  have b_law_pairs_right := F_law_pairs_right.binds (ps := ["deck", "one", "two"]) fun _ _ _ _ _ _ us hl => match us, hl with | [_, _, _], _ => rfl
  have F_law_due := fun_mk (st := s_law_due) l_law_due c_law_due k_law_due
  have b_law_due := F_law_due.binds (ps := ["data", "last_day", "days"]) fun _ _ _ _ _ _ us hl => match us, hl with | [_, _, _], _ => rfl
  have F_law_rows_right := fun_mk (st := s_law_rows_right) l_law_rows_right c_law_rows_right k_law_rows_right
  have b_law_rows_right := F_law_rows_right.binds (ps := ["deck", "books", "data"]) fun _ _ _ _ _ _ us hl => match us, hl with | [_, _, _], _ => rfl
  have F_law := fun_mk (st := s_law) l_law c_law k_law
  have b_law := F_law.binds (ps := ["script"]) fun _ _ _ _ _ _ us hl => match us, hl with | [_], _ => rfl
  let T : Tx K w mg := {  f_PlanError_init := f_PlanError_init, C_DoubleName := C_DoubleName, mg_DoubleName := PySem.W.mg_of X G aC_DoubleName, ox_DoubleName := ⟨⟨_, _, _, _, _, _, _, _, _, _, _, _, _, _, _, xL_DoubleName, rfl⟩, sa_DoubleName, eC_DoubleName, tC_DoubleName, kC_DoubleName⟩, ic_DoubleName := ic_DoubleName, nv_DoubleName := nv_DoubleName, xf_DoubleName := ⟨ga_DoubleName, gt_DoubleName, eC_DoubleName, hC_DoubleName⟩, ti := ti, C_PlanError := C_PlanError, mg_PlanError := PySem.W.mg_of X G aC_PlanError, C_Book := C_Book, cl_Book := ⟨pg_Book, hd_Book, po_Book, sa_Book⟩, mg_Book := PySem.W.mg_of X G aC_Book, n_Book_tasks := n_Book_tasks, n_Book_rules := n_Book_rules, d__TASKS_IN := d__TASKS_IN, e__TASKS_IN := e__TASKS_IN, i__TASKS_IN := i__TASKS_IN, g__TASKS_IN := PySem.W.mg_of X G ga__TASKS_IN, kd__TASKS_IN := ⟨gl__TASKS_IN, gk__TASKS_IN, gs__TASKS_IN⟩, k__TASKS_IN_before := ⟨_, gv__TASKS_IN_before⟩, k__TASKS_IN_upto := ⟨_, gv__TASKS_IN_upto⟩, k__TASKS_IN_same := ⟨_, gv__TASKS_IN_same⟩, k__TASKS_IN_apart := ⟨_, gv__TASKS_IN_apart⟩, k__TASKS_IN_far := ⟨_, gv__TASKS_IN_far⟩, k__TASKS_IN_next := ⟨_, gv__TASKS_IN_next⟩, k__TASKS_IN_first := ⟨_, gv__TASKS_IN_first⟩, k__TASKS_IN_last := ⟨_, gv__TASKS_IN_last⟩, d__OTHER_END := d__OTHER_END, e__OTHER_END := e__OTHER_END, i__OTHER_END := i__OTHER_END, g__OTHER_END := PySem.W.mg_of X G ga__OTHER_END, kd__OTHER_END := ⟨gl__OTHER_END, gk__OTHER_END, gs__OTHER_END⟩, k__OTHER_END_first := ⟨_, gv__OTHER_END_first⟩, k__OTHER_END_last := ⟨_, gv__OTHER_END_last⟩, k__OTHER_END_same := gv__OTHER_END_same, k__OTHER_END_apart := gv__OTHER_END_apart, d__EXCHANGED := d__EXCHANGED, e__EXCHANGED := e__EXCHANGED, i__EXCHANGED := i__EXCHANGED, g__EXCHANGED := PySem.W.mg_of X G ga__EXCHANGED, kd__EXCHANGED := ⟨gl__EXCHANGED, gk__EXCHANGED, gs__EXCHANGED⟩, k__EXCHANGED_before := ⟨_, gv__EXCHANGED_before⟩, k__EXCHANGED_upto := ⟨_, gv__EXCHANGED_upto⟩, k__EXCHANGED_same := gv__EXCHANGED_same, k__EXCHANGED_apart := gv__EXCHANGED_apart, k__EXCHANGED_far := gv__EXCHANGED_far, k__EXCHANGED_next := gv__EXCHANGED_next, k__EXCHANGED_first := gv__EXCHANGED_first, k__EXCHANGED_last := gv__EXCHANGED_last, d__DIRECTED := d__DIRECTED, g__DIRECTED := PySem.W.mg_of X G ga__DIRECTED, sq__DIRECTED := fun H => .inr ⟨_, _, _, gl__DIRECTED, rfl, rfl, (by show 4 ≤ sizeLine; decide), .cons ⟨_, rfl⟩ (.cons ⟨_, rfl⟩ (.cons ⟨_, rfl⟩ (.cons ⟨_, rfl⟩ (.nil))))⟩, t__LONGEST_NAME := _, v__LONGEST_NAME := PySem.W.mg_of X G gv__LONGEST_NAME, d_PlanError_init := _, F_PlanError_init := F_PlanError_init, b_PlanError_init := b_PlanError_init, f_is_name := f_is_name, d_is_name := _, F_is_name := F_is_name, b_is_name := b_is_name, g_is_name := PySem.W.mg_of X G a_is_name, f_check_tasks := f_check_tasks, d_check_tasks := _, F_check_tasks := F_check_tasks, b_check_tasks := b_check_tasks, g_check_tasks := PySem.W.mg_of X G a_check_tasks, f_check_rule := f_check_rule, d_check_rule := _, F_check_rule := F_check_rule, b_check_rule := b_check_rule, g_check_rule := PySem.W.mg_of X G a_check_rule, f_is_kept := f_is_kept, d_is_kept := _, F_is_kept := F_is_kept, b_is_kept := b_is_kept, g_is_kept := PySem.W.mg_of X G a_is_kept, f_turned := f_turned, d_turned := _, F_turned := F_turned, b_turned := b_turned, g_turned := PySem.W.mg_of X G a_turned, f_exchanged := f_exchanged, d_exchanged := _, F_exchanged := F_exchanged, b_exchanged := b_exchanged, g_exchanged := PySem.W.mg_of X G a_exchanged, f_Book_init := f_Book_init, d_Book_init := _, F_Book_init := F_Book_init, b_Book_init := b_Book_init, mk_Book := ⟨ms_Book, a_Book_init, i_Book_init, kc_Book⟩, f_Book_tasks := f_Book_tasks, d_Book_tasks := _, F_Book_tasks := F_Book_tasks, b_Book_tasks := b_Book_tasks, p_Book_tasks := p_Book_tasks, pr_Book_tasks := ⟨a_Book_tasks, ps_Book_tasks, pt_Book_tasks, ⟨_, pr_Book_tasks⟩⟩, f_Book_rules := f_Book_rules, d_Book_rules := _, F_Book_rules := F_Book_rules, b_Book_rules := b_Book_rules, p_Book_rules := p_Book_rules, pr_Book_rules := ⟨a_Book_rules, ps_Book_rules, pt_Book_rules, ⟨_, pr_Book_rules⟩⟩, f_Book_keeps := f_Book_keeps, d_Book_keeps := _, F_Book_keeps := F_Book_keeps, b_Book_keeps := b_Book_keeps, me_Book_keeps := ⟨a_Book_keeps, i_Book_keeps, k_Book_keeps⟩, f_Book_with_rules := f_Book_with_rules, d_Book_with_rules := _, F_Book_with_rules := F_Book_with_rules, b_Book_with_rules := b_Book_with_rules, me_Book_with_rules := ⟨a_Book_with_rules, i_Book_with_rules, k_Book_with_rules⟩, f_Book_without := f_Book_without, d_Book_without := _, F_Book_without := F_Book_without, b_Book_without := b_Book_without, me_Book_without := ⟨a_Book_without, i_Book_without, k_Book_without⟩, f_Book_beside := f_Book_beside, d_Book_beside := _, F_Book_beside := F_Book_beside, b_Book_beside := b_Book_beside, me_Book_beside := ⟨a_Book_beside, i_Book_beside, k_Book_beside⟩, f_Book_then := f_Book_then, d_Book_then := _, F_Book_then := F_Book_then, b_Book_then := b_Book_then, me_Book_then := ⟨a_Book_then, i_Book_then, k_Book_then⟩, f_Book_turned := f_Book_turned, d_Book_turned := _, F_Book_turned := F_Book_turned, b_Book_turned := b_Book_turned, me_Book_turned := ⟨a_Book_turned, i_Book_turned, k_Book_turned⟩, f_Book_exchanged := f_Book_exchanged, d_Book_exchanged := _, F_Book_exchanged := F_Book_exchanged, b_Book_exchanged := b_Book_exchanged, me_Book_exchanged := ⟨a_Book_exchanged, i_Book_exchanged, k_Book_exchanged⟩, f_Book_and := f_Book_and, d_Book_and := _, F_Book_and := F_Book_and, b_Book_and := b_Book_and, me_Book_and := ⟨a_Book_and, i_Book_and, k_Book_and⟩, f_Book_len := f_Book_len, d_Book_len := _, F_Book_len := F_Book_len, b_Book_len := b_Book_len, me_Book_len := ⟨a_Book_len, i_Book_len, k_Book_len⟩, f_Book_eq := f_Book_eq, d_Book_eq := _, F_Book_eq := F_Book_eq, b_Book_eq := b_Book_eq, me_Book_eq := ⟨a_Book_eq, i_Book_eq, k_Book_eq⟩, f_law_deck := f_law_deck, d_law_deck := _, F_law_deck := F_law_deck, b_law_deck := b_law_deck, g_law_deck := PySem.W.mg_of X G a_law_deck, f_law_draw := f_law_draw, d_law_draw := _, F_law_draw := F_law_draw, b_law_draw := b_law_draw, g_law_draw := PySem.W.mg_of X G a_law_draw, f_law_names := f_law_names, d_law_names := _, F_law_names := F_law_names, b_law_names := b_law_names, g_law_names := PySem.W.mg_of X G a_law_names, f_law_rule := f_law_rule, d_law_rule := _, F_law_rule := F_law_rule, b_law_rule := b_law_rule, g_law_rule := PySem.W.mg_of X G a_law_rule, f_law_great := f_law_great, d_law_great := _, F_law_great := F_law_great, b_law_great := b_law_great, g_law_great := PySem.W.mg_of X G a_law_great, f_law_days := f_law_days, d_law_days := _, F_law_days := F_law_days, b_law_days := b_law_days, g_law_days := PySem.W.mg_of X G a_law_days, f_law_number := f_law_number, d_law_number := _, F_law_number := F_law_number, b_law_number := b_law_number, g_law_number := PySem.W.mg_of X G a_law_number, f_law_kept := f_law_kept, d_law_kept := _, F_law_kept := F_law_kept, b_law_kept := b_law_kept, g_law_kept := PySem.W.mg_of X G a_law_kept, f_law_is_plan := f_law_is_plan, d_law_is_plan := _, F_law_is_plan := F_law_is_plan, b_law_is_plan := b_law_is_plan, g_law_is_plan := PySem.W.mg_of X G a_law_is_plan, f_law_backward := f_law_backward, d_law_backward := _, F_law_backward := F_law_backward, b_law_backward := b_law_backward, g_law_backward := PySem.W.mg_of X G a_law_backward, f_law_order := f_law_order, d_law_order := _, F_law_order := F_law_order, b_law_order := b_law_order, g_law_order := PySem.W.mg_of X G a_law_order, f_law_equal := f_law_equal, d_law_equal := _, F_law_equal := F_law_equal, b_law_equal := b_law_equal, g_law_equal := PySem.W.mg_of X G a_law_equal, f_law_pairs_right := f_law_pairs_right, d_law_pairs_right := _, F_law_pairs_right := F_law_pairs_right, b_law_pairs_right := b_law_pairs_right, g_law_pairs_right := PySem.W.mg_of X G a_law_pairs_right, f_law_due := f_law_due, d_law_due := _, F_law_due := F_law_due, b_law_due := b_law_due, g_law_due := PySem.W.mg_of X G a_law_due, f_law_rows_right := f_law_rows_right, d_law_rows_right := _, F_law_rows_right := F_law_rows_right, b_law_rows_right := b_law_rows_right, g_law_rows_right := PySem.W.mg_of X G a_law_rows_right, f_law := fa, d_law := _, F_law := F_law, b_law := b_law, g_law := PySem.W.mg_of X G a_law, m_all := PySem.W.mg_none_of X G z_all, m_dict := PySem.W.mg_none_of X G z_dict, m_int := PySem.W.mg_none_of X G z_int, m_isinstance := PySem.W.mg_none_of X G z_isinstance, m_len := PySem.W.mg_none_of X G z_len, m_list := PySem.W.mg_none_of X G z_list, m_max := PySem.W.mg_none_of X G z_max, m_min := PySem.W.mg_none_of X G z_min, m_range := PySem.W.mg_none_of X G z_range, m_sorted := PySem.W.mg_none_of X G z_sorted, m_sum := PySem.W.mg_none_of X G z_sum, m_zip := PySem.W.mg_none_of X G z_zip, xa_Book := xa_Book, xn_Book := xn_Book, xt_Book := xt_Book, xm_Book := xm_Book, tc_Book := tc_Book, cm_Book := ⟨⟨z0_Book, z1_Book, z2_Book, z3_Book, z4_Book⟩, xm_Book, ne_Book⟩, sf_Book := sf_Book }
  exact ⟨PySem.W.fnOf "law" "law" (defArgs s_law) (defBody s_law) (defScope s_law) .none kV_law dc_law pm_law an_law cd_law ct_law, fun s v => .of_eq rfl, fun base _ _ => ok_law T⟩
end K14
open PySem PySem.W PyProof.Rows
set_option maxHeartbeats 0 in
theorem PySem.Challenge.cw_plandays_k14_whole_books_put_together_holds : PySem.Challenge.rw_plandays_k14_whole_books_put_together.Holds := by
  w_on; o_law; k_head; (case hw => w_witness2)
  k_fill
  refine L2.walk_of (l := PySem.Challenge.rw_plandays_k14_whole_books_put_together) (n := 63) (k := 10) (x := "script") (CX := fun _ => L2.CX0) (sp := fun w => K14.spLaw _) rfl (by decide) rfl ⟨rfl, by decide, by decide⟩ (fun w h Y => PySem.W.kIn_of Y) ?F (fun _ _ a ns hl _ hS => ⟨a, ns, rfl, hS, hl, fun _ => rfl⟩) (fun _ _ _ _ _ h => h)
  case F =>
    intro w mg fa h KX G hmg
    refine' K14.all_mk KX G hmg ?aC_Book ?pg_Book ?hd_Book ?po_Book ?sa_Book ?ms_Book ?kc_Book ?n_Book_tasks ?n_Book_rules ?aC_DoubleName ?eC_DoubleName ?tC_DoubleName ?hC_DoubleName ?xL_DoubleName ?sa_DoubleName ?ga_DoubleName ?gt_DoubleName ?nv_DoubleName ?ic_DoubleName ?kC_DoubleName ?aC_PlanError ?eC_PlanError ?tC_PlanError ?hC_PlanError ?ti ?ga__TASKS_IN ?gl__TASKS_IN ?gk__TASKS_IN ?gs__TASKS_IN ?gv__TASKS_IN_before ?gv__TASKS_IN_upto ?gv__TASKS_IN_same ?gv__TASKS_IN_apart ?gv__TASKS_IN_far ?gv__TASKS_IN_next ?gv__TASKS_IN_first ?gv__TASKS_IN_last ?ga__OTHER_END ?gl__OTHER_END ?gk__OTHER_END ?gs__OTHER_END ?gv__OTHER_END_first ?gv__OTHER_END_last ?gv__OTHER_END_same ?gv__OTHER_END_apart ?ga__EXCHANGED ?gl__EXCHANGED ?gk__EXCHANGED ?gs__EXCHANGED ?gv__EXCHANGED_before ?gv__EXCHANGED_upto ?gv__EXCHANGED_same ?gv__EXCHANGED_apart ?gv__EXCHANGED_far ?gv__EXCHANGED_next ?gv__EXCHANGED_first ?gv__EXCHANGED_last ?ga__DIRECTED ?gl__DIRECTED ?gv__LONGEST_NAME ?l_PlanError_init ?c_PlanError_init ?k_PlanError_init ?a_is_name ?l_is_name ?c_is_name ?k_is_name ?a_check_tasks ?l_check_tasks ?c_check_tasks ?k_check_tasks ?a_check_rule ?l_check_rule ?c_check_rule ?k_check_rule ?a_is_kept ?l_is_kept ?c_is_kept ?k_is_kept ?a_turned ?l_turned ?c_turned ?k_turned ?a_exchanged ?l_exchanged ?c_exchanged ?k_exchanged ?a_Book_init ?i_Book_init ?l_Book_init ?c_Book_init ?k_Book_init ?a_Book_tasks ?ps_Book_tasks ?pt_Book_tasks ?pr_Book_tasks ?l_Book_tasks ?c_Book_tasks ?k_Book_tasks ?a_Book_rules ?ps_Book_rules ?pt_Book_rules ?pr_Book_rules ?l_Book_rules ?c_Book_rules ?k_Book_rules ?a_Book_keeps ?i_Book_keeps ?l_Book_keeps ?c_Book_keeps ?k_Book_keeps ?a_Book_with_rules ?i_Book_with_rules ?l_Book_with_rules ?c_Book_with_rules ?k_Book_with_rules ?a_Book_without ?i_Book_without ?l_Book_without ?c_Book_without ?k_Book_without ?a_Book_beside ?i_Book_beside ?l_Book_beside ?c_Book_beside ?k_Book_beside ?a_Book_then ?i_Book_then ?l_Book_then ?c_Book_then ?k_Book_then ?a_Book_turned ?i_Book_turned ?l_Book_turned ?c_Book_turned ?k_Book_turned ?a_Book_exchanged ?i_Book_exchanged ?l_Book_exchanged ?c_Book_exchanged ?k_Book_exchanged ?a_Book_and ?i_Book_and ?l_Book_and ?c_Book_and ?k_Book_and ?a_Book_len ?i_Book_len ?l_Book_len ?c_Book_len ?k_Book_len ?a_Book_eq ?i_Book_eq ?l_Book_eq ?c_Book_eq ?k_Book_eq ?a_law_deck ?l_law_deck ?c_law_deck ?k_law_deck ?a_law_draw ?l_law_draw ?c_law_draw ?k_law_draw ?a_law_names ?l_law_names ?c_law_names ?k_law_names ?a_law_rule ?l_law_rule ?c_law_rule ?k_law_rule ?a_law_great ?l_law_great ?c_law_great ?k_law_great ?a_law_days ?l_law_days ?c_law_days ?k_law_days ?a_law_number ?l_law_number ?c_law_number ?k_law_number ?a_law_kept ?l_law_kept ?c_law_kept ?k_law_kept ?a_law_is_plan ?l_law_is_plan ?c_law_is_plan ?k_law_is_plan ?a_law_backward ?l_law_backward ?c_law_backward ?k_law_backward ?a_law_order ?l_law_order ?c_law_order ?k_law_order ?a_law_equal ?l_law_equal ?c_law_equal ?k_law_equal ?a_law_pairs_right ?l_law_pairs_right ?c_law_pairs_right ?k_law_pairs_right ?a_law_due ?l_law_due ?c_law_due ?k_law_due ?a_law_rows_right ?l_law_rows_right ?c_law_rows_right ?k_law_rows_right ?a_law ?l_law ?c_law ?k_law ?z_all ?z_dict ?z_int ?z_isinstance ?z_len ?z_list ?z_max ?z_min ?z_range ?z_sorted ?z_sum ?z_zip ?xa_Book ?xn_Book ?xt_Book ?xm_Book ?tc_Book ?ne_Book ?z0_Book ?z1_Book ?z2_Book ?z3_Book ?z4_Book ?sf_Book
    (case aC_Book => k_is)
    (case pg_Book => k_is)
    (case hd_Book => k_is)
    (case po_Book => k_is)
    (case sa_Book => k_is)
    (case ms_Book => k_is)
    (case kc_Book => k_is)
    (case n_Book_tasks => k_is)
    (case n_Book_rules => k_is)
    (case aC_DoubleName => k_is)
    (case eC_DoubleName => k_is)
    (case tC_DoubleName => k_is)
    (case hC_DoubleName => k_is)
    (case xL_DoubleName => k_is)
    (case sa_DoubleName => k_is)
    (case ga_DoubleName => k_is)
    (case gt_DoubleName => k_is)
    (case nv_DoubleName => k_is)
    (case ic_DoubleName => k_is)
    (case kC_DoubleName => k_is)
    (case aC_PlanError => k_is)
    (case eC_PlanError => k_is)
    (case tC_PlanError => k_is)
    (case hC_PlanError => k_is)
    (case ti => k_is)
    (case ga__TASKS_IN => k_is)
    (case gl__TASKS_IN => k_is)
    (case gk__TASKS_IN => k_keys)
    (case gs__TASKS_IN => decide)
    (case gv__TASKS_IN_before => k_is)
    (case gv__TASKS_IN_upto => k_is)
    (case gv__TASKS_IN_same => k_is)
    (case gv__TASKS_IN_apart => k_is)
    (case gv__TASKS_IN_far => k_is)
    (case gv__TASKS_IN_next => k_is)
    (case gv__TASKS_IN_first => k_is)
    (case gv__TASKS_IN_last => k_is)
    (case ga__OTHER_END => k_is)
    (case gl__OTHER_END => k_is)
    (case gk__OTHER_END => k_keys)
    (case gs__OTHER_END => decide)
    (case gv__OTHER_END_first => k_is)
    (case gv__OTHER_END_last => k_is)
    (case gv__OTHER_END_same => k_is)
    (case gv__OTHER_END_apart => k_is)
    (case ga__EXCHANGED => k_is)
    (case gl__EXCHANGED => k_is)
    (case gk__EXCHANGED => k_keys)
    (case gs__EXCHANGED => decide)
    (case gv__EXCHANGED_before => k_is)
    (case gv__EXCHANGED_upto => k_is)
    (case gv__EXCHANGED_same => k_is)
    (case gv__EXCHANGED_apart => k_is)
    (case gv__EXCHANGED_far => k_is)
    (case gv__EXCHANGED_next => k_is)
    (case gv__EXCHANGED_first => k_is)
    (case gv__EXCHANGED_last => k_is)
    (case ga__DIRECTED => k_is)
    (case gl__DIRECTED => k_is)
    (case gv__LONGEST_NAME => k_is)
    (case l_PlanError_init => k_is)
    (case c_PlanError_init => k_is)
    (case k_PlanError_init => k_is)
    (case a_is_name => k_is)
    (case l_is_name => k_is)
    (case c_is_name => k_is)
    (case k_is_name => k_is)
    (case a_check_tasks => k_is)
    (case l_check_tasks => k_is)
    (case c_check_tasks => k_is)
    (case k_check_tasks => k_is)
    (case a_check_rule => k_is)
    (case l_check_rule => k_is)
    (case c_check_rule => k_is)
    (case k_check_rule => k_is)
    (case a_is_kept => k_is)
    (case l_is_kept => k_is)
    (case c_is_kept => k_is)
    (case k_is_kept => k_is)
    (case a_turned => k_is)
    (case l_turned => k_is)
    (case c_turned => k_is)
    (case k_turned => k_is)
    (case a_exchanged => k_is)
    (case l_exchanged => k_is)
    (case c_exchanged => k_is)
    (case k_exchanged => k_is)
    (case a_Book_init => k_is)
    (case i_Book_init => k_is)
    (case l_Book_init => k_is)
    (case c_Book_init => k_is)
    (case k_Book_init => k_is)
    (case a_Book_tasks => k_is)
    (case ps_Book_tasks => k_is)
    (case pt_Book_tasks => k_is)
    (case pr_Book_tasks => k_is)
    (case l_Book_tasks => k_is)
    (case c_Book_tasks => k_is)
    (case k_Book_tasks => k_is)
    (case a_Book_rules => k_is)
    (case ps_Book_rules => k_is)
    (case pt_Book_rules => k_is)
    (case pr_Book_rules => k_is)
    (case l_Book_rules => k_is)
    (case c_Book_rules => k_is)
    (case k_Book_rules => k_is)
    (case a_Book_keeps => k_is)
    (case i_Book_keeps => k_is)
    (case l_Book_keeps => k_is)
    (case c_Book_keeps => k_is)
    (case k_Book_keeps => k_is)
    (case a_Book_with_rules => k_is)
    (case i_Book_with_rules => k_is)
    (case l_Book_with_rules => k_is)
    (case c_Book_with_rules => k_is)
    (case k_Book_with_rules => k_is)
    (case a_Book_without => k_is)
    (case i_Book_without => k_is)
    (case l_Book_without => k_is)
    (case c_Book_without => k_is)
    (case k_Book_without => k_is)
    (case a_Book_beside => k_is)
    (case i_Book_beside => k_is)
    (case l_Book_beside => k_is)
    (case c_Book_beside => k_is)
    (case k_Book_beside => k_is)
    (case a_Book_then => k_is)
    (case i_Book_then => k_is)
    (case l_Book_then => k_is)
    (case c_Book_then => k_is)
    (case k_Book_then => k_is)
    (case a_Book_turned => k_is)
    (case i_Book_turned => k_is)
    (case l_Book_turned => k_is)
    (case c_Book_turned => k_is)
    (case k_Book_turned => k_is)
    (case a_Book_exchanged => k_is)
    (case i_Book_exchanged => k_is)
    (case l_Book_exchanged => k_is)
    (case c_Book_exchanged => k_is)
    (case k_Book_exchanged => k_is)
    (case a_Book_and => k_is)
    (case i_Book_and => k_is)
    (case l_Book_and => k_is)
    (case c_Book_and => k_is)
    (case k_Book_and => k_is)
    (case a_Book_len => k_is)
    (case i_Book_len => k_is)
    (case l_Book_len => k_is)
    (case c_Book_len => k_is)
    (case k_Book_len => k_is)
    (case a_Book_eq => k_is)
    (case i_Book_eq => k_is)
    (case l_Book_eq => k_is)
    (case c_Book_eq => k_is)
    (case k_Book_eq => k_is)
    (case a_law_deck => k_is)
    (case l_law_deck => k_is)
    (case c_law_deck => k_is)
    (case k_law_deck => k_is)
    (case a_law_draw => k_is)
    (case l_law_draw => k_is)
    (case c_law_draw => k_is)
    (case k_law_draw => k_is)
    (case a_law_names => k_is)
    (case l_law_names => k_is)
    (case c_law_names => k_is)
    (case k_law_names => k_is)
    (case a_law_rule => k_is)
    (case l_law_rule => k_is)
    (case c_law_rule => k_is)
    (case k_law_rule => k_is)
    (case a_law_great => k_is)
    (case l_law_great => k_is)
    (case c_law_great => k_is)
    (case k_law_great => k_is)
    (case a_law_days => k_is)
    (case l_law_days => k_is)
    (case c_law_days => k_is)
    (case k_law_days => k_is)
    (case a_law_number => k_is)
    (case l_law_number => k_is)
    (case c_law_number => k_is)
    (case k_law_number => k_is)
    (case a_law_kept => k_is)
    (case l_law_kept => k_is)
    (case c_law_kept => k_is)
    (case k_law_kept => k_is)
    (case a_law_is_plan => k_is)
    (case l_law_is_plan => k_is)
    (case c_law_is_plan => k_is)
    (case k_law_is_plan => k_is)
    (case a_law_backward => k_is)
    (case l_law_backward => k_is)
    (case c_law_backward => k_is)
    (case k_law_backward => k_is)
    (case a_law_order => k_is)
    (case l_law_order => k_is)
    (case c_law_order => k_is)
    (case k_law_order => k_is)
    (case a_law_equal => k_is)
    (case l_law_equal => k_is)
    (case c_law_equal => k_is)
    (case k_law_equal => k_is)
    (case a_law_pairs_right => k_is)
    (case l_law_pairs_right => k_is)
    (case c_law_pairs_right => k_is)
    (case k_law_pairs_right => k_is)
    (case a_law_due => k_is)
    (case l_law_due => k_is)
    (case c_law_due => k_is)
    (case k_law_due => k_is)
    (case a_law_rows_right => k_is)
    (case l_law_rows_right => k_is)
    (case c_law_rows_right => k_is)
    (case k_law_rows_right => k_is)
    (case a_law => k_is)
    (case l_law => k_is)
    (case c_law => k_is)
    (case k_law => k_is)
    (case z_all => k_is)
    (case z_dict => k_is)
    (case z_int => k_is)
    (case z_isinstance => k_is)
    (case z_len => k_is)
    (case z_list => k_is)
    (case z_max => k_is)
    (case z_min => k_is)
    (case z_range => k_is)
    (case z_sorted => k_is)
    (case z_sum => k_is)
    (case z_zip => k_is)
    (case xa_Book => k_is)
    (case xn_Book => k_is)
    (case xt_Book => k_is)
    (case xm_Book => k_is)
    (case tc_Book => k_is)
    (case ne_Book => k_is)
    (case z0_Book => k_is)
    (case z1_Book => k_is)
    (case z2_Book => k_is)
    (case z3_Book => k_is)
    (case z4_Book => k_is)
    (case sf_Book => k_is)

