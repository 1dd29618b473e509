import PyProof.Rows.All
import Wide.All
import OpenK.AllK
import Wide.FinOn
import HandS.ForMost
import HandS.Wide
import HandS.IsInst
import HandS.Codes
import HandS.Conv
import HandS.Style
import HandS.More
import HandS.Property
import HandS.Defaults
import HandS.MakeKwOnly
import KE.KDictZip
import HandS.Dict
import Flt.Len
import HandS.OwnEq
import HandS.SlotsOwn
import HandS.Star
import HandS.Walk
import HandS.Steps
import HandS.Exc
import HandS.ExcOwn
import HandS.ExcInit
import HandS.ExcField
import HandS.ExcIs
import HandS.WordsExc
import HandS.NoneIn
import KE.KExcIs
import PySem.Challenge.RW_plandays_k03_rules_let_and_refused
set_option Elab.async false
set_option linter.all false
set_option maxRecDepth 100000
namespace K03
open PySem PySem.Spec PyProof.Rows L2
/-! ### rules of my own over the layer's -/
theorem pe_bmK {X : Cx} {K : PySem.W.Frag} (hK : X.K = K) {o e : Expr} {es : List Expr} {to : TE} {t : TA} {name : Str} {apos cpos : Pos} {T id : String} {r : V → List V → Hp → VK → Prop}
    (pa : PlainAttrs T) (slot : Slot T name id) (ty : typeOf (.builtin id) = pure (.type "method_descriptor")) (hm : MtR X id r) (ho : PE X o to) (ha : PA X (e :: es) t)
    (h1 : attributeBase o name X.env (eval o X.env) = eval o X.env := by rfl)
    (h2 : ((backTo cpos (starEach (e :: es) X.env)).all (fun x => !x.1) && (backToKw cpos (keywordEach [] X.env)).all (fun x => x.1.isSome) && decide ((e :: es).length + ([] : List Keyword).length + (if ([] : List Keyword).isEmpty then 0 else 1) < 30)) = true := by rfl)
    (h3 : (apos.endLine == cpos.line) = true := by rfl) (h4 : starEach (e :: es) X.env = (false, eval e X.env) :: starEach es X.env := by rfl) (h5 : (backTo cpos (starEach es X.env)).any (·.1) = false := by rfl) :
    PE X (.Call (.Attribute o name apos) (e :: es) [] cpos) (tBM K T r to t) := by
  subst hK
  exact pe_bm pa slot ty hm ho ha h1 h2 h3 h4 h5
/-- len(x), x of an own class with its own __len__ -/
theorem call_lenOwn {X : Cx} {k : Nat} {C f : Addr} {fd : FuncData} {ps : List Str} {sp : Sp} (c : Cls X.K C) (m : Meth X.K C "__len__" f) (F : FnOk X.prog X.w X.K X.mg X.base CX0 k f fd ps sp) (hr : Room (k + 1) X.A) (hb : Binds X.K fd ps []) :
    CallR X (.builtin "len") (fun xs H Q => ∃ a dx fs, xs = [.ref a] ∧ H a = some (.ins C dx fs) ∧ sp [.ref a] H (fun v H' => ∃ n : Int, v = .int n ∧ 0 ≤ n ∧ n < 2 ^ 63 ∧ Q (.int n) H') E0) := by
  intro pins s σ H xs us Q I r h
  obtain ⟨a, dx, fs, rfl, ea, h⟩ := h
  obtain ⟨u, rfl, ru⟩ := vals1 r
  obtain rfl : u = Value.ref a := ru
  obtain ⟨mA, O, _⟩ := ins_get I.hok ea
  obtain ⟨od, J, _⟩ := O.look
  have hl : ([Value.ref a] ++ ([] : List Value)).length = ps.length := by
    rw [← F.len _ _ _ _ h]
    rfl
  refine Calls.call_function_entry kind_len plain_len entry_len (args_len1 _) ?_
  unfold Builtin.«len»
  refine wpAny_bind (m := oneArg "len" _) (wpAny_pure ?_)
  refine wpAny_bind (m := callSpecial? (.ref a) (Str.ofString "__len__")) (PySem.W.special_fn I.kIn J m.at_ (beq_iff_eq.mp m.fn) ?_)
  refine wpAny_call (codeAny_mono (F.run X.A.in1 X.stack s H ⟨[.ref a], []⟩ [.ref a] [.ref a] _ E0 hr.in1 I.env0.in1 (hb s [.ref a] I.kIn hl) (.cons rfl .nil) h) fun r s' hq => ?_)
  cases r with
  | error er => exact False.elim hq
  | ok fl =>
    cases fl with
    | ret u =>
      obtain ⟨v, H', I3, rv, n, ev, n0, n1, q3⟩ := I.after hq
      subst ev
      obtain ⟨t, rfl⟩ := rv
      refine wpAny_bind (wpAny_holding (wpAny_pure ?_))
      refine wpAny_bind (wpAny_letGo ?_)
      show wpAny _ _ (if n < 0 then _ else _) _ _ _
      rw [if_neg (by omega)]
      show wpAny _ _ (if n ≥ 2 ^ 63 then _ else _) _ _ _
      rw [if_neg (by omega)]
      exact wpAny_bind (wpAny_mkInt (wpAny_pure ⟨_, rfl, .int n, H', I3.tok _, ⟨_, rfl⟩, q3⟩))
    | next => exact False.elim hq
    | brk => exact False.elim hq
    | cont => exact False.elim hq
/-- an item of a dict that the module holds -/
theorem ix_kd {X : Cx} {d : Addr} {es : Array DictEntry} {n : Nat} (D : KDict X.K X.w d es n) : IxR X (fun x y H Q => ∃ (z : Str) (u0 : Value) (v0 : V), x = .ref d ∧ y = .str z ∧ PySem.W.nsIn X.K d z = some (some u0) ∧ RelV v0 u0 ∧ Q v0 H) := by
  intro value slice pins s σ H x y v u Q I rx ry h hs
  have hx : x = .ref d := by
    obtain ⟨z, u0, v0, hx, _⟩ := h
    exact hx
  have h2 := op_item_kd D pins s σ H x y v u Q I rx ry h
  subst hx
  obtain rfl : v = Value.ref d := rx
  exact tail_any (kd_type D I) PySem.slot_dict_getitem.lookup h2 hs
/-- the readings of list(..) and len(..), named -/
def rList (K : PySem.W.Frag) : List V → Hp → VK → Prop := fun xs H Q => ∃ p ys, xs = [.ref p] ∧ (SqL K H p ys ∨ SqT K H p ys) ∧ ∀ l, H l = none → Q (.ref l) (upd H l (.lst ys))
def rLen (K : PySem.W.Frag) : List V → Hp → VK → Prop := fun xs H Q => ∃ p ys, xs = [.ref p] ∧ (SqL K H p ys ∨ SqT K H p ys) ∧ Q (.int ys.length) H
/-- dict(zip(a, b)) -/
def tDictZip (K : PySem.W.Frag) (ta : TA) : TE := fun σ H Q => ta σ H fun vs H1 => ∃ (a b : Addr) (ks : List Key) (ys : List V), vs = [.ref a, .ref b] ∧ SqL K H1 a (ks.map kV) ∧ SqL K H1 b ys ∧ ks.length = ys.length ∧ ∀ d, H1 d = none → Q (.ref d) (upd H1 d (.dK (mergeK [] (ks.zip ys))))
theorem kv_zip : ∀ {ks : List Key} {ys : List V} {us : List Value}, Vals ys us → KV (ks.zip ys) (ks.zip us)
  | [], _, _, _ => .nil
  | _ :: _, _, _, .nil => .nil
  | _ :: _, _, _, .cons r t => .cons ⟨rfl, r⟩ (kv_zip t)
theorem pe_dictZip {X : Cx} {e1 e2 : Expr} {ta : TA} {p p2 pos pos2 : Pos} (hc : X.calm = true) (hg : Gl X "dict") (hm : X.mg "dict" = none) (hg2 : Gl X "zip") (hm2 : X.mg "zip" = none) (ha : PA X [e1, e2] ta)
    (na : starEach [.Call (.Name "zip" p2) [e1, e2] [] pos2] X.env = (false, eval (.Call (.Name "zip" p2) [e1, e2] [] pos2) X.env) :: starEach [] X.env := by rfl)
    (hs : starEach [e1, e2] X.env = (false, eval e1 X.env) :: starEach [e2] X.env := by rfl) (hpl : (backTo pos2 (starEach [e2] X.env)).any (·.1) = false := by rfl) :
    PE X (.Call (.Name "dict" p) [.Call (.Name "zip" p2) [e1, e2] [] pos2] [] pos) (tDictZip X.K ta) := by
  refine ⟨fun pins s σ H Q I h => ?_⟩
  refine Call_ (ld_blt I hg hm PyProof.Rows.boot_dict (PyProof.Rows.callWith_type1 (args_cons (Call_ (ld_blt I hg2 hm2 PyProof.Rows.boot_zip (PyProof.Rows.callWith_type1 (thn (ha.run pos2 pins s σ H _ I h) fun us s1 ⟨vs, H1, I1, r1, q1⟩ => ?_) hs hpl))) na) na))
  obtain ⟨a, b, ks, ys, ex, hqx, hqy, hlen, q⟩ := q1
  subst ex
  obtain ⟨u1, u2, rfl, ra, rb⟩ := vals2 r1
  obtain rfl : u1 = Value.ref a := ra
  obtain rfl : u2 = Value.ref b := rb
  obtain ⟨its, rv, p1, z1⟩ := I1.list hqx
  obtain ⟨its2, rv2, p2, _⟩ := I1.list hqy
  have la : a < s1.heap.objs.size := p1.lt
  have lb : b < s1.heap.objs.size := p2.lt
  have n1 := rv.length
  have n2 := rv2.length
  rw [List.length_map] at n1 z1
  refine call_zip_2 p1.isList p2.isList fun h' hz hTI hTO h1 h2 hsz hk => args_nil ?_
  refine PySem.call_dict_pairs (knd := mixKind X.prog X.w) (kvs := ks.zip its2) (PairArg.zip _ _ _ _ _ _ _ (PySem.W.ktu_apart s1.heap.objs.size a b la lb) its.toArray its2.toArray) (I1.ok.hd hc)
    ⟨hz, hTI, ⟨_, _, hTO⟩, h1, h2, p1.isList.at fun o e => hk _ _ e, p2.isList.at fun o e => hk _ _ e⟩ ⟨?_, fun i key v hr => ?_⟩ ?_ fun h'' tk hd' hk' => ?_
  · rw [List.length_zip, List.size_toArray, List.size_toArray]
    omega
  · obtain ⟨e1, e2⟩ := hr
    have e1' : its[i]? = some key := by simpa using e1
    have e2' : its2[i]? = some v := by simpa using e2
    have hi : i < ks.length := by
      have := (List.getElem?_eq_some_iff.mp e1').1
      omega
    obtain ⟨w', hw, rw'⟩ := rv.get (i := i) (x := kV ks[i]) (by rw [List.getElem?_map, List.getElem?_eq_getElem hi]; rfl)
    rw [e1'] at hw
    obtain rfl := Option.some.inj hw
    refine ⟨ks[i], ?_, kV_is rw'⟩
    rw [List.getElem?_zip_eq_some]
    exact ⟨List.getElem?_eq_getElem hi, e2'⟩
  · rw [List.size_toArray]
    have : min its.length its2.toArray.size ≤ its.length := Nat.min_le_left _ _
    omega
  · have es : h'.objs.size = s1.heap.objs.size + 5 := hsz
    have hm' : (h'.objs.size == sysModules) = false := beq_eq_false_iff_ne.mpr (Nat.ne_of_gt (Nat.lt_of_lt_of_le I1.big (by rw [es]; exact Nat.le_add_right _ _)))
    have hl2 : (mergeK [] (ks.zip ys)).length ≤ sizeLine := by
      refine Nat.le_trans (length_mergeK _ []) ?_
      rw [List.length_nil, Nat.zero_add, List.length_zip]
      omega
    have keep : ∀ c o, s1.heap.get? c = some o → h''.get? c = some o := fun c o e => by
      refine hk' c o ?_ (hk c o e)
      have := Heap.lt_size e
      simp only [List.mem_cons, List.not_mem_nil, or_false, not_or]
      refine ⟨fun z => ?_, fun z => ?_, fun z => ?_, fun z => ?_⟩ <;> rw [z] at this
      · exact absurd this (Nat.not_lt.mpr (Nat.le_add_right _ _))
      · exact absurd this (Nat.not_lt.mpr (Nat.le_add_right _ _))
      · exact absurd this (Nat.lt_irrefl _)
      · exact absurd this (Nat.not_lt.mpr (Nat.le_add_right _ _))
    exact ⟨.ref h'.objs.size, upd H1 h'.objs.size (.dK (mergeK [] (ks.zip ys))), I1.laid (t' := tk) keep (by omega) (show ObjOk X.prog X.w _ _ _ (.dK (mergeK [] (ks.zip ys))) from ⟨hl2, hm', merged [] (ks.zip its2), KV.merge (kv_zip rv2) .nil, hd'⟩), rfl, q _ (I1.hok.fresh (by omega))⟩
theorem pe_callN0 {X : Cx} {CX : CXT} {k : Nat} {f : Addr} {fd : FuncData} {ps ks : List Str} {sp : Sp} {E : XK} {x : Str} {p pos : Pos} {kws : List Keyword} {tk : TA} {g : List Value → List Value → List Value} {gV : List V → List V → List V}
    (F : FnOk X.prog X.w X.K X.mg X.base CX k f fd ps sp) (hr : Room k X.A) (hg : Gl X x) (hm : X.mg x = some (.ref f)) (kp : PySem.W.keepIn X.K (.ref f) = true) (hb : KBn X.K fd ps 0 ks g gV) (hx : Passes CX X E) (hkw : PK X kws tk)
    (h1 : (backToKw pos (keywordEach kws X.env)).all (·.1.isSome) = true := by rfl) (h2 : (backToKw pos (keywordEach kws X.env)).filterMap (·.1) = ks := by rfl) (h3 : (x == ("__debug__" : Str)) = false := by decide)
    (h4 : ((backTo pos (starEach [] X.env)).any (·.1) || (backToKw pos (keywordEach kws X.env)).any (·.1.isNone)) = false := by rfl) :
    PE X (.Call (.Name x p) [] kws pos) (tCallN 0 ks.length sp gV E tNil tk) := by
  refine ⟨fun pins s σ H Q I h => wpAny_Call_Name_kw (ld_glob I hg hm ?_ h3)⟩
  refine PySem.W.callWith_KW0 (h₀ := X.base) I.ok.mod.kin kp h1 ?_ h4
  refine thn (hkw.run pos pins s σ H _ I h) fun ws s2 ⟨zs, H2, I2, rz, l1, l2, q2⟩ => ⟨I2.kIn, ?_⟩
  rw [h2]
  exact run_fnN (us := []) (vs := []) F hr hb hx I2 .nil rz rfl l2 q2
/-- o.m(k = v, ..), nothing by position -/
def tMethN (C : Addr) (m : Str) (n : Nat) (sp : Sp) (gV : List V → List V → List V) (E : XK) (ta : TE) (tk : TA) : TE := fun σ H Q => ta σ H fun x H1 => ∃ (a dx : Addr) (fs : List (Str × V)), x = .ref a ∧ H1 a = some (.ins C dx fs) ∧ fs.lookup m = none ∧ tk σ H1 fun zs H2 => zs.length = n ∧ sp (gV [.ref a] zs) H2 Q E
theorem pe_methN0 {X : Cx} {CX : CXT} {k : Nat} {C f : Addr} {fd : FuncData} {ps ks : List Str} {sp : Sp} {E : XK} {m : Str} {apos pos : Pos} {o : Expr} {kws : List Keyword} {ta : TE} {tk : TA} {g : List Value → List Value → List Value} {gV : List V → List V → List V} {pl : Sem Bool}
    (he : PE X o ta) (c : Cls X.K C) (hm : Meth X.K C m f) (F : FnOk X.prog X.w X.K X.mg X.base CX k f fd ps sp) (hr : Room k X.A) (hb : KBn X.K fd ps 1 ks g gV) (hx : Passes CX X E) (hkw : PK X kws tk)
    (h1 : (backToKw pos (keywordEach kws X.env)).all (·.1.isSome) = true := by rfl) (h2 : (backToKw pos (keywordEach kws X.env)).filterMap (·.1) = ks := by rfl)
    (h4 : ((backTo pos (starEach [] X.env)).any (·.1) || (backToKw pos (keywordEach kws X.env)).any (·.1.isNone)) = false := by rfl)
    (ht : eval (.Call (.Attribute o m apos) [] kws pos) X.env = (do let ov ← eval o X.env; standAt apos.atName; let (f, first) ← holding [ov] (getMethod ov m pl); callWith pos f first (backTo pos (starEach [] X.env)) (backToKw pos (keywordEach kws X.env))) := by rfl) :
    PE X (.Call (.Attribute o m apos) [] kws pos) (tMethN C m ks.length sp gV E ta tk) := by
  refine ⟨fun pins s σ H Q I h => PySem.W.methodCall_KW (pl := pl) (thn (he.run pins s σ H _ I h) fun u s1 ⟨x, H1, I1, rx, a, dx, fs, ex, ea, l, q⟩ => ?_) ht⟩
  subst ex
  obtain rfl : u = Value.ref a := rx
  refine getmeth_ok I1 ea c hm l (PySem.W.callWith_KW0 (first := [.ref a]) (h₀ := X.base) I.ok.mod.kin hm.kp h1 (thn (hkw.run pos pins s1 σ H1 _ I1 q) fun ws s2 ⟨zs, H2, I2, rz, l2, q2⟩ => ⟨I2.kIn, ?_⟩) h4)
  rw [h2]
  exact run_fnN (us := [.ref a]) (vs := [.ref a]) F hr hb hx I2 (.cons rfl .nil) rz rfl l2 q2
/-! ### a dict of the module: d.get(k, x) -/
def tGetKD (K : PySem.W.Frag) (d : Addr) (td ty tx : TE) : TE := fun σ H Q => td σ H fun x H1 => x = .ref d ∧ ty σ H1 fun y H2 => tx σ H2 fun z H3 => ∃ (k : Str) (r : Option Value) (v0 : V), y = .str k ∧ PySem.W.nsIn K d k = some r ∧ (r = none → v0 = z) ∧ (∀ u0, r = some u0 → RelV v0 u0) ∧ Q v0 H3
theorem pe_getKD {X : Cx} {o e f : Expr} {apos cpos : Pos} {td ty tx : TE} {d : Addr} {es : Array DictEntry} {n : Nat} (D : KDict X.K X.w d es n) (ho : PE X o td) (he : PE X e ty) (hf : PE X f tx) (m : M2 X o "get" apos e f cpos) : PE X (.Call (.Attribute o "get" apos) [e, f] [] cpos) (tGetKD X.K d td ty tx) := by
  refine ⟨fun pins s σ H Q I h => ?_⟩
  refine wpAny_Call_method m.base m.few m.line PySem.F.plainAttrs_dict PySem.F.slot_dict_get PySem.F.type_dict_get (thn (ho.run pins s σ H _ I h) fun u s1 ⟨x, H1, I1, rx, ex, q1⟩ => ?_)
  subst ex
  obtain rfl : u = Value.ref d := rx
  refine ⟨kd_type D I1, fun b q => ?_, ?_⟩
  · cases q
    exact ⟨_, I1.kIn _ _ D.at_, rfl⟩
  rw [m.trees]
  refine Calls.callWith_builtin rfl (Calls.evalArgs_plain (Calls.spliced_cons (thn (he.run pins s1 σ H1 _ I1 q1) fun iv s2 ⟨y, H2, I2, ry, q2⟩ =>
    Calls.spliced_cons (thn (hf.run pins s2 σ H2 _ I2 q2) fun fv s3 ⟨z, H3, I3, rz, k, r, v0, ey, hn, h0, h1, q3⟩ => Calls.spliced_nil ?_))))
  subst ey
  obtain ⟨t, rfl⟩ := ry
  have M := PySem.W.mapOf_K (prog := X.prog) (w := X.w) I3.kIn D.at_ D.lit
  refine call_meetsIn PySem.F.slot_dict_get M.typeIs PySem.F.entry_dict_get (PySem.F.args_dict_get_3 _ _ _) (meets_dict_get_default (strKind X.prog X.w) d (PySem.strKind_is X.prog X.w k t) D.low fv) ⟨_, M, ?_⟩
  have e := PySem.W.find_K D.at_ hn
  rw [e]
  refine ⟨v0, H3, I3.tok _, ?_, q3⟩
  cases r with
  | none => rw [h0 rfl]; exact rz
  | some u0 => exact h1 u0 rfl
/-! ### == of two instances of a class with its own __eq__ -/
def rEqOwn (C : Addr) (sp : Sp) (E : XK) : R2 := fun x y H Q => ∃ a b dx dy fs gs, x = .ref a ∧ y = .ref b ∧ H a = some (.ins C dx fs) ∧ H b = some (.ins C dy gs) ∧ sp [.ref a, .ref b] H Q E
theorem op_eqOwn {X : Cx} {k : Nat} {C f : Addr} {fd : FuncData} {ps : List Str} {sp : Sp} (m : Meth X.K C "__eq__" f) (F : FnOk X.prog X.w X.K X.mg X.base CX0 k f fd ps sp) (hr : Room k X.A) (hb : Binds X.K fd ps []) : OpR X (compareOp .Eq) (rEqOwn C sp E0) := by
  intro pins s σ H x y v u Q I rx ry h
  obtain ⟨a, b, dx, dy, fs, gs, rfl, rfl, ha, hb', h⟩ := h
  obtain rfl : v = Value.ref a := rx
  obtain rfl : u = Value.ref b := ry
  obtain ⟨mA, J, _⟩ := ins_get I.hok ha
  obtain ⟨mB, J', _⟩ := ins_get I.hok hb'
  obtain ⟨od, J, _⟩ := J.look
  obtain ⟨od', J', _⟩ := J'.look
  obtain ⟨m', hF⟩ := I.fr
  have hl : ([Value.ref a, Value.ref b] ++ ([] : List Value)).length = ps.length := by
    rw [← F.len _ _ _ _ h]
    rfl
  show wpAny (model X.prog X.w) X.A (richCompare .Eq (.ref a) (.ref b)) (EP X pins σ Q) X.xe s
  refine PySem.W.cmp_K (op := .Eq) (tb := .ref C) hr.units0 hF I.ok.mod.kin J J'.type (by simp [PySem.W.notFirst]) m.at_ m.fn ?_
  refine wpAny_call (codeAny_mono (F.run X.A X.stack s H ⟨[.ref a, .ref b], []⟩ [.ref a, .ref b] [.ref a, .ref b] _ E0 hr I.env0 (hb s [.ref a, .ref b] I.kIn hl) (.cons rfl (.cons rfl .nil)) h) fun r s' hq => ?_)
  cases r with
  | error er => exact False.elim hq
  | ok fl =>
    cases fl with
    | ret w =>
      obtain ⟨z', H', I', rz, qz⟩ := I.after hq
      exact SlX.cmpback rz ⟨z', H', I', rz, qz⟩
    | next => exact False.elim hq
    | brk => exact False.elim hq
    | cont => exact False.elim hq
/-! ### x & y of two instances of a class with its own __and__ -/
theorem op_andOwn {X : Cx} {k : Nat} {C f : Addr} {fd : FuncData} {ps : List Str} {sp : Sp} (hc : PySem.W.selfFirst X.K C = true) (m : Meth X.K C "__and__" f) (F : FnOk X.prog X.w X.K X.mg X.base CX0 k f fd ps sp) (hr : Room k X.A) (hb : Binds X.K fd ps []) : OpR X (binaryOp .BitAnd) (rEqOwn C sp E0) := by
  intro pins s σ H x y v u Q I rx ry h
  obtain ⟨a, b, dx, dy, fs, gs, rfl, rfl, ha, hb', h⟩ := h
  obtain rfl : v = Value.ref a := rx
  obtain rfl : u = Value.ref b := ry
  obtain ⟨mA, J, _⟩ := ins_get I.hok ha
  obtain ⟨mB, J', _⟩ := ins_get I.hok hb'
  obtain ⟨od, J, _⟩ := J.look
  obtain ⟨od', J', _⟩ := J'.look
  obtain ⟨m', hF⟩ := I.fr
  have hl : ([Value.ref a, Value.ref b] ++ ([] : List Value)).length = ps.length := by
    rw [← F.len _ _ _ _ h]
    rfl
  refine PySem.W.binop_K (op := .BitAnd) hF I.ok.mod.kin J J'.type hc m.at_ m.fn ?_
  refine wpAny_call (codeAny_mono (F.run X.A X.stack s H ⟨[.ref a, .ref b], []⟩ [.ref a, .ref b] [.ref a, .ref b] _ E0 hr I.env0 (hb s [.ref a, .ref b] I.kIn hl) (.cons rfl (.cons rfl .nil)) h) fun r s' hq => ?_)
  cases r with
  | error er => exact False.elim hq
  | ok fl =>
    cases fl with
    | ret w =>
      obtain ⟨z', H', I', rz, qz⟩ := I.after hq
      exact SlX.cmpback rz ⟨z', H', I', rz, qz⟩
    | next => exact False.elim hq
    | brk => exact False.elim hq
    | cont => exact False.elim hq
theorem pe_fldK {X : Cx} {K : PySem.W.Frag} (hK : X.K = K) {e : Expr} {f : Str} {pos : Pos} {ta : TE} (he : PE X e ta) (hb : attributeBase e f X.env (eval e X.env) = eval e X.env) : PE X (.Attribute e f pos) (tFld K ta f) := by
  subst hK
  exact pe_fld he hb
/-! ### errors with one value: made, raised, passed on -/
theorem passE {X : Cx} {E : XK} (tk : Takes X (fun cls d _ H => E cls d H)) : Passes (L2.CX X.prog X.w) X E := fun pins σ H s e s' I c => passes_call tk (fun _ _ _ _ h => h) pins σ H s e s' I c
def sp_einit (K : PySem.W.Frag) : Sp := fun vs H Q _ => ∃ (a C : Addr) (y : V), vs = [.ref a, y] ∧ OexC K C ∧ PySem.W.findIn K (.ref C) "value" = some none ∧ H a = some (exo a C none) ∧ ∀ dx, H dx = none → dx ≠ a → Q .non (upd (upd H dx (exd dx [(("value" : Str), y)])) a (exo a C (some dx)))
theorem raised {K : PySem.W.Frag} {C : Addr} {y : V} {H : Hp} {W : Value → Option Addr → Hp → Prop} (ox : OexC K C) (nv : PySem.W.findIn K (.ref C) "value" = some none) (k : ∀ d H', H d = none → Same H H' → H' d = some (.xd [(("value" : Str), y)]) → W (.ref C) (some d) H') :
    ∀ a, H a = none → sp_einit K (.ref a :: ([y] ++ [])) (upd H a (exo a C none)) (fun v H2 => v = .non ∧ ∃ (d : Addr) (fs : List (Str × V)), H2 a = some (exo a C (some d)) ∧ H2 d = some (exd d fs) ∧ H d = none ∧ W (.ref C) (some d) (upd (del H2 a) d (.xd fs))) (fun _ _ _ => False) := by
  intro a ha
  refine ⟨a, C, y, rfl, ox, nv, upd_same, fun dx hdx ne => ⟨rfl, dx, _, upd_same, by rw [upd_ne ne, upd_same], ?_, ?_⟩⟩
  · rw [upd_ne ne] at hdx
    exact hdx
  · rw [upd_ne ne] at hdx
    refine k dx _ hdx (fun b o e => ?_) upd_same
    have n1 := ne_of_none e hdx
    have n2 := ne_of_none e ha
    rw [upd_ne n1, del_ne n2, upd_ne n2, upd_ne n1, upd_ne n2]
    exact e
/-! ### calls whose errors a try around takes, at the slots -/
section
variable {X : Cx} {CX : CXT} {k : Nat} {f C : Addr} {fd : FuncData} {ps : List Str} {sp : Sp} {E : L2.St → XK} {m : Str} {pos apos : Pos} {e o : Expr} {es : List Expr} {ta tb : TE} {t : TA}
def tMethS (C : Addr) (m : Str) (sp : Sp) (E : L2.St → XK) (ta : TE) (t : TA) : TE := fun σ H Q => ta σ H fun x H1 => ∃ (a dx : Addr) (fs : List (Str × V)), x = .ref a ∧ H1 a = some (.ins C dx fs) ∧ fs.lookup m = none ∧ t σ H1 fun vs H2 => sp (.ref a :: vs) H2 Q (E σ)
theorem pe_methS {pl : Sem Bool} (he : PE X o ta) (c : Cls X.K C) (hm : Meth X.K C m f) (F : FnOk X.prog X.w X.K X.mg X.base CX k f fd ps sp) (hr : Room k X.A) (hb : Binds X.K fd ps []) (hx : ∀ σ, PassesAt CX X σ (E σ)) (ha : PA X (e :: es) t)
    (hst : starEach (e :: es) X.env = (false, eval e X.env) :: starEach es X.env := by rfl) (hpl : (backTo pos (starEach es X.env)).any (·.1) = false := by rfl)
    (ht : eval (.Call (.Attribute o m apos) (e :: es) [] pos) X.env = (do
      let ov ← eval o X.env
      standAt apos.atName
      let (f, first) ← holding [ov] (getMethod ov m pl)
      callWith pos f first (backTo pos (starEach (e :: es) X.env)) (backToKw pos (keywordEach [] X.env))) := by rfl) :
    PE X (.Call (.Attribute o m apos) (e :: es) [] pos) (tMethS C m sp E ta t) := by
  refine ⟨fun pins s σ H Q I h => ?_⟩
  refine PySem.W.methodCall_KW (pl := pl) (thn (he.run pins s σ H _ I h) fun u s1 ⟨x, H1, I1, rx, a, dx, fs, ex, ea, l, q⟩ => ?_) ht
  subst ex
  obtain rfl : u = Value.ref a := rx
  refine getmeth_ok I1 ea c hm l ?_
  refine PySem.W.callWith_K (first := [.ref a]) (h₀ := X.base) I.ok.mod.kin hm.kp (thn (ha.run pos pins s1 σ H1 _ I1 q) fun us s2 ⟨vs, H2, I2, r, q2⟩ => ⟨I2.kIn, ?_⟩) hst hpl
  exact run_fnS (us := .ref a :: us) (vs := .ref a :: vs) F hr hb (hx σ) I2 (.cons rfl r) q2
theorem run_fnNS {n : Nat} {ks : List Str} {g : List Value → List Value → List Value} {gV : List V → List V → List V} {pins : List (Addr × Obj)} {σ : L2.St} {H : Hp} {s : Shared} {Q : VK} {us ws : List Value} {vs zs : List V} (F : FnOk X.prog X.w X.K X.mg X.base CX k f fd ps sp) (hr : Room k X.A) (hb : KBn X.K fd ps n ks g gV) (hx : PassesAt CX X σ (E σ))
    (I : Inv X pins σ H s) (r : Vals vs us) (rz : Vals zs ws) (l1 : vs.length = n) (l2 : zs.length = ks.length) (h : sp (gV vs zs) H Q (E σ)) : wpAny (model X.prog X.w) X.A (call (.ref f) us (ks.zip ws)) (EP X pins σ Q) X.xe s := by
  have r2 := hb.rel r rz
  refine wpAny_call (codeAny_mono (F.run X.A X.stack s H ⟨us, ks.zip ws⟩ (g us ws) (gV vs zs) Q (E σ) hr I.env0 (hb.to s us ws I.kIn (r.length.symm.trans l1) (rz.length.symm.trans l2)) r2 h) fun r s' hq => ?_)
  cases r with
  | error e => exact hx pins H s e s' I hq
  | ok fl =>
    cases fl with
    | ret u => exact I.after hq
    | next => exact False.elim hq
    | brk => exact False.elim hq
    | cont => exact False.elim hq
def tMethNS (C : Addr) (m : Str) (n : Nat) (sp : Sp) (gV : List V → List V → List V) (E : L2.St → XK) (ta : TE) (tk : TA) : TE := fun σ H Q => ta σ H fun x H1 => ∃ (a dx : Addr) (fs : List (Str × V)), x = .ref a ∧ H1 a = some (.ins C dx fs) ∧ fs.lookup m = none ∧ tk σ H1 fun zs H2 => zs.length = n ∧ sp (gV [.ref a] zs) H2 Q (E σ)
theorem pe_methNS {ks : List Str} {kws : List Keyword} {tk : TA} {g : List Value → List Value → List Value} {gV : List V → List V → List V} {pl : Sem Bool}
    (he : PE X o ta) (c : Cls X.K C) (hm : Meth X.K C m f) (F : FnOk X.prog X.w X.K X.mg X.base CX k f fd ps sp) (hr : Room k X.A) (hb : KBn X.K fd ps 1 ks g gV) (hx : ∀ σ, PassesAt CX X σ (E σ)) (hkw : PK X kws tk)
    (h1 : (backToKw pos (keywordEach kws X.env)).all (·.1.isSome) = true := by rfl) (h2 : (backToKw pos (keywordEach kws X.env)).filterMap (·.1) = ks := by rfl)
    (h4 : ((backTo pos (starEach [] X.env)).any (·.1) || (backToKw pos (keywordEach kws X.env)).any (·.1.isNone)) = false := by rfl)
    (ht : eval (.Call (.Attribute o m apos) [] kws pos) X.env = (do let ov ← eval o X.env; standAt apos.atName; let (f, first) ← holding [ov] (getMethod ov m pl); callWith pos f first (backTo pos (starEach [] X.env)) (backToKw pos (keywordEach kws X.env))) := by rfl) :
    PE X (.Call (.Attribute o m apos) [] kws pos) (tMethNS C m ks.length sp gV E ta tk) := by
  refine ⟨fun pins s σ H Q I h => PySem.W.methodCall_KW (pl := pl) (thn (he.run pins s σ H _ I h) fun u s1 ⟨x, H1, I1, rx, a, dx, fs, ex, ea, l, q⟩ => ?_) ht⟩
  subst ex
  obtain rfl : u = Value.ref a := rx
  refine getmeth_ok I1 ea c hm l (PySem.W.callWith_KW0 (first := [.ref a]) (h₀ := X.base) I.ok.mod.kin hm.kp h1 (thn (hkw.run pos pins s1 σ H1 _ I1 q) fun ws s2 ⟨zs, H2, I2, rz, l2, q2⟩ => ⟨I2.kIn, ?_⟩) h4)
  rw [h2]
  exact run_fnNS (us := [.ref a]) (vs := [.ref a]) F hr hb (hx σ) I2 (.cons rfl .nil) rz rfl l2 q2
/-- o[i], o of an own class with its own __getitem__ -/
def tIxOwn (C : Addr) (sp : Sp) (E : L2.St → XK) (ta tb : TE) : TE := fun σ H Q => ta σ H fun x H1 => tb σ H1 fun y H2 => ∃ (a dx : Addr) (fs : List (Str × V)), x = .ref a ∧ H2 a = some (.ins C dx fs) ∧ sp [.ref a, y] H2 Q (E σ)
theorem pe_ixOwn (m : Meth X.K C "__getitem__" f) (hfn : PySem.W.fnIn X.K f = true) (F : FnOk X.prog X.w X.K X.mg X.base CX k f fd ps sp) (hr : Room (k + 1) X.A) (hb : Binds X.K fd ps []) (hx : ∀ σ, PassesAt CX X σ (E σ)) (ha : PE X o ta) (hbe : PE X e tb)
    (hsl : ∀ x i, subscripted e true (.ref x) i = runValue (.builtin "lifetime.subscript" ⟨[.ref x, i], []⟩) := by intro _ _; rfl) : PE X (.Subscript o e pos) (tIxOwn C sp E ta tb) := by
  refine ⟨fun pins s σ H Q I h => ?_⟩
  refine Subscript_ (thn (ha.run pins s σ H _ I h) fun v s1 ⟨x, H1, I1, r1, q1⟩ => thn (hbe.run pins s1 σ H1 _ I1 q1) fun u s2 ⟨y, H2, I2, r2, a, dx, fs, ex, ea, q2⟩ => ?_)
  subst ex
  obtain rfl : v = Value.ref a := r1
  obtain ⟨mA, O, _⟩ := ins_get I2.hok ea
  obtain ⟨od, J, _⟩ := O.look
  obtain ⟨m', hF⟩ := I2.fr
  have hl : ([Value.ref a, u] ++ ([] : List Value)).length = ps.length := by
    rw [← F.len _ _ _ _ q2]
    rfl
  refine PySem.W.sub_K hF I.ok.mod.kin J m.at_ hfn m.fn ?_ (hsl _ _)
  refine wpAny_call (codeAny_mono (F.run X.A.in1 X.stack s2 H2 ⟨[.ref a, u], []⟩ [.ref a, u] [.ref a, y] _ (E σ) hr.in1 I2.env0.in1 (hb s2 [.ref a, u] I2.kIn hl) (.cons rfl (.cons r2 .nil)) q2) fun r s' hq => ?_)
  cases r with
  | error er => exact hx σ pins H2 s2 er s' I2 hq
  | ok fl =>
    cases fl with
    | ret w => exact I2.after hq
    | next => exact False.elim hq
    | brk => exact False.elim hq
    | cont => exact False.elim hq
end
/-- outside of a try nothing is let out: the promise must say so -/
theorem passLS {X : Cx} (σ : L2.St) : PassesAt (L2.CX X.prog X.w) X σ E0 := fun pins H s e s' I c => passL pins σ H s e s' I c
theorem pass0S {X : Cx} {E : XK} (σ : L2.St) : PassesAt CX0 X σ E := fun _ _ _ _ _ _ c => c.elim
theorem passES {X : Cx} {E : XK} (tk : Takes X (fun cls d _ H => E cls d H)) (σ : L2.St) : PassesAt (L2.CX X.prog X.w) X σ E := fun pins H s e s' I c => passE tk pins σ H s e s' I c
/-! ### isinstance(e, c) of a caught error that has its field -/
def rIsX (K : PySem.W.Frag) (D a : Addr) (cls : Value) (d : Option Addr) : List V → Hp → VK → Prop := fun xs H Q => ∃ (dd : Addr) (fs : List (Str × V)) (c : V) (cv : Value) (b : Bool), cls = .ref D ∧ d = some dd ∧ H dd = some (.xd fs) ∧ xs = [.ref a, c] ∧ (∀ u, RelV c u → u = cv) ∧ PySem.W.kitOne K (.ref D) cv = some b ∧ Q (.bl b) H
theorem call_isX {X : Cx} {a D : Addr} {oe : Obj} {cls : Value} {d : Option Addr} {pn : List (Addr × Obj)} (C : ExcC X.K D) (hz : Zc cls d oe) (hf : ∃ vs, oe.data = .fields vs) : CallR (X.suite a ((a, oe) :: pn)) (.builtin "isinstance") (rIsX X.K D a cls d) := by
  intro pins s σ H xs us Q I r h
  obtain ⟨dd, fs, c, cv, b, ec, ed, ea, rfl, hcv, e, q⟩ := h
  subst ec ed
  match us, r with
  | [_, _], .cons rx (.cons rt .nil) =>
    cases rx
    have ecv := hcv _ rt
    subst ecv
    have got := (I.pin (a, oe) (List.mem_append_left _ List.mem_cons_self)).1
    obtain ⟨vs, hv⟩ := hf
    have hx : ObjOk X.prog X.w H s.heap dd (.xd fs) := I.hok dd _ ea
    obtain ⟨mA, hns, _⟩ := hx
    obtain ⟨od, ho, _⟩ := lookIn_ns hns
    have J : PySem.W.InstAt s.heap a oe D (some od) := ⟨got, hz.1, by unfold PySem.W.notCls; rw [hv] <;> rfl, by rw [hz.2]; exact ho⟩
    have hcl : (PySem.W.clsIn X.K D).isSome = true := by
      obtain ⟨cd, hc, _⟩ := PySem.W.any_some C.hd
      rw [hc]
      rfl
    exact PySem.W.kia_one (PySem.W.kitx_exc hcl C.hg C.hk C.hs C.ha C.hn C.ht C.hm) I.kIn J e (fun z => nomatch z) fun tk => ⟨.bl b, H, I.kept (t' := tk) fun _ _ z => z, rfl, q⟩
/-! ### a test whose ways are joined before the branches -/
def tJn (t : TT) : TT := fun σ H Q => ∃ J : Bool → Hp → Prop, t σ H J ∧ ∀ b H', J b H' → Q b H'
theorem pt_join {X : Cx} {e : Expr} {t : TT} (h : PT X e t) : PT X e (tJn t) := by
  refine ⟨fun pins s σ H Q I hw => ?_⟩
  obtain ⟨J, h1, h2⟩ := hw
  exact thn (h.run pins s σ H J I h1) fun b s' ⟨H', I', q⟩ => ⟨H', I', h2 b H' q⟩
/-! ### several except clauses, each with the same name -/
/-- the ends behind a clause: the name in slot i is gone -/
def endAs (i : Nat) (D : Ends) : Ends := { nx := fun τ G => D.nx (τ.set i none) G, rt := D.rt, bk := fun τ G => D.bk (τ.set i none) G, ct := fun τ G => D.ct (τ.set i none) G }
def wEach (K : PySem.W.Frag) (i : Nat) (W0 : WX) (D : Ends) : List (Value × (Addr → Value → Option Addr → TS)) → WX
  | [] => W0
  | (c, t1) :: rest => fun kl dd τ G => ∃ y, PySem.W.exmOne K kl c = some y ∧ (y = true → ∀ a, G a = none → t1 a kl dd (endAs i D) (τ.set i (some (.ref a))) G) ∧ (y = false → wEach K i W0 D rest kl dd τ G)
inductive Clauses (X : Cx) (n : Str) : List ExceptHandler → List (Value × (Addr → Value → Option Addr → TS)) → Prop
  | nil : Clauses X n [] []
  | cons {x : Str} {c : Value} {t1 : Addr → Value → Option Addr → TS} {st : Stmt} {sts : List Stmt} {p1 p2 : Pos} {hs : List ExceptHandler} {l : List (Value × (Addr → Value → Option Addr → TS))} (hc : Names X x c)
      (su : ∀ (a : Addr) (ob : Obj) (kl : Value) (dd : Option Addr) (pl : List (Addr × Obj)), Zc kl dd ob → (∃ fs, ob.data = .fields fs) → PSs (X.suite a ((a, ob) :: pl)) (st :: sts) (t1 a kl dd)) (rest : Clauses X n hs l) :
      Clauses X n (.ExceptHandler (some (.Name x p1)) (some n) (st :: sts) p2 :: hs) ((c, t1) :: l)
section
variable {X : Cx} {n : Str} {i : Nat} {body : List Stmt} {h0 : ExceptHandler} {hl : List ExceptHandler} {l : List (Value × (Addr → Value → Option Addr → TS))} {pos : Pos} {tb : WX → TS} {W0 : WX}
theorem ps_try_each (hs : X.stack = X.env :: X.outer) (hf : X.env.frame = some X.env.locals) (hN : X.N.Nodup) (hi : X.N[i]? = some n) (hn : X.env.kindOf n = some .local) (tk : Takes X W0)
    (hb : ∀ (W : WX) (pn : List (Addr × Obj)) (xe : Value → Shared → Prop), Takes (X.tr pn xe) W → PassesOwn (model X.prog X.w) X.A X.env xe → PSs (X.tr pn xe) body (tb W))
    (hh : Clauses X n (h0 :: hl) l) : PS X (.Try body (h0 :: hl) [] [] pos) (fun D σ H => tb (wEach X.K i W0 D l) D σ H) := by
  refine ⟨fun pins s0 σ H D I h => ?_⟩
  have okX := I.ok
  have frX : X.A.frames = some (X.env :: X.outer) := by rw [okX.frames, hs]
  have lcN : Loc X.env.scope n := .inl hn
  refine wpAny_Try_except (wpAny_mono ((hb (wEach X.K i W0 D l) (X.pn ++ pins) (fun er t₁ => wpAny (model X.prog X.w) X.A (noteFrame er X.env) (fun _ t₂ => wpAny (model X.prog X.w) X.A (setFlight er none) (fun _ t₃ =>
    wpAny (model X.prog X.w) X.A (handleBy er X.env (h0 :: hl)) (SP X pins D) X.xe t₃) X.xe t₂) X.xe t₁) (fun u s' flown => ?_) PassesOwn.looking).run [] s0 σ H D (I.toTry _) h) (fun f t1 done => ?_) (fun er t1 he => he))
  · obtain ⟨a, B, sJ, pn1, τ, G, kl, dd, rfl, J0, nb, up, sky, na, os, ag, wish⟩ := flown
    have J : Inv X pins τ G sJ := J0.ofTry okX
    have sky1 : Sky B (X.env :: X.outer) a (Zc kl dd) X.env.locals s'.heap := by rw [← hs]; exact sky
    show wpAny (model X.prog X.w) X.A (noteFrame (.ref a) X.env) _ _ _
    refine Sky.land Zc.steady frX hf sky1 fun g3 on3 up3 => ?_
    have J3 : Inv X pins τ G { s' with heap := g3 } := J.landed nb on3.1 (up.trans up3) os ag
    obtain ⟨ob3, fs3, ge3, gz3, gd3⟩ := on3.there
    have offFr : ∀ {g : Heap} {o : Obj} {fs : Array Value}, g.FunFrames B (X.env :: X.outer) → g.get? a = some o → o.data = .fields fs → a ∉ frs (X.env :: X.outer) := fun {g o fs} ff e dd hm => by
      obtain ⟨_, o', e', no⟩ := ff.mem hm
      rw [e] at e'; cases e'
      exact no _ dd
    have offA := offFr on3.2.2.1 ge3 gd3
    have offL : a ≠ X.env.locals := fun z => offA (List.mem_filterMap.mpr ⟨X.env, List.mem_cons_self, by rw [hf, z]⟩)
    have offF : a ∉ X.fs := fun hm => by
      obtain ⟨e, he, q⟩ := List.mem_filterMap.mp hm
      exact offA (List.mem_filterMap.mpr ⟨e, List.mem_cons_of_mem _ he, q⟩)
    have T3 := J3.suite ge3 gd3 na offL offF
    have walk : ∀ {hl' : List ExceptHandler} {l' : List (Value × (Addr → Value → Option Addr → TS))}, Clauses X n hl' l' → wEach X.K i W0 D l' kl dd τ G →
        wpAny (model X.prog X.w) X.A (handleBy (.ref a) X.env hl') (SP X pins D) X.xe { s' with heap := g3 } := by
      intro hl' l' hk
      induction hk with
      | nil =>
        intro wish
        refine wpAny_handleBy_nil ?_
        obtain ⟨_, _, _, ob, fs, tb1, _, _, ge, _, gd, first, _⟩ := id on3
        unfold PySem.passOn
        refine wpAny_bind (wpAny_field ge gd first ?_)
        rw [if_neg (show ¬ ((Value.ref tb1 == Value.none) = true) from by simp)]
        have out : wpAny (model X.prog X.w) X.A (setFlight (.ref a) X.env.frame) (fun _ t4 => wpAny (model X.prog X.w) X.A (throw (.ref a) : Sem Flow) (SP X pins D) X.xe t4) X.xe { s' with heap := g3 } := by
          rw [hf]
          refine HandSPX.setFlight_upZ on3 fun g4 sky4 up4 => wpAny_throw (tk _ _ ?_)
          exact ⟨a, B, sJ, pins, τ, G, kl, dd, rfl, J, nb, (up.trans up3).trans up4, .inr (.inr (by rw [hs]; exact sky4)), na, os, ag, wish⟩
        first
          | exact wpAny_bind (wpAny_pure (wpAny_bind out))
          | exact wpAny_bind out
      | @cons x c t1 st sts p1 p2 hs2 l2 hc su rest ih =>
        intro wish
        obtain ⟨y, hy, yes, no⟩ := wish
        refine wpAny_handleBy_cons (codeAny_handlers_test ?_) (by intro q; cases q)
        have looks : PySem.W.Looks (model X.prog X.w) g3 (typeOf (.ref a)) kl := fun A Q E s k q => wpAny_typeOf_ref (k _ _ ge3) (by rw [gz3.1]; exact q)
        have one := PySem.W.exm_one (M := model X.prog X.w) (J3.kIn) looks hy
        have named : ∀ {Q : Value → Shared → Prop} {E : Value → Shared → Prop}, Q c { s' with heap := g3 } → wpAny (model X.prog X.w) (X.A.mark (some (.ref a))) (eval (.Name x p1) X.env) Q E { s' with heap := g3 } := fun {Q E} q => by
          obtain ⟨hg, hdb, hm | ⟨hm, hv, hnn⟩⟩ := hc
          · exact ld_glob (X := X.suite a ((a, ob3) :: (X.pn ++ pins))) T3 hg hm q hdb
          · exact ld_blt (X := X.suite a ((a, ob3) :: (X.pn ++ pins))) T3 hg hm hv q hnn hdb
        refine named (one.here ?_)
        cases y with
        | false =>
          show wpAny _ X.A (handleBy (.ref a) X.env hs2) _ _ _
          exact ih (no rfl)
        | true =>
          refine codeAny_handlers_suite_as (HandSPX.lands_againZ on3 fun g4 on4 up4 => ?_)
          have J4 : Inv X pins τ G { s' with heap := g4 } := J.landed nb on4.1 ((up.trans up3).trans up4) os ag
          obtain ⟨ob4, fs4, ge4, gz4, gd4⟩ := on4.there
          have T4 := J4.suite ge4 gd4 na offL offF
          refine store_ok (X := X.suite a ((a, ob4) :: (X.pn ++ pins))) (v := .ref a) T4 hN hi lcN rfl (fun t5 T5 => ?_) (.inr hn)
          refine wpAny_mono ((su a ob4 kl dd (X.pn ++ pins) gz4 ⟨_, gd4⟩).run [] t5 _ G _ T5 (yes rfl a na)) (fun f t6 done => ?_) (fun _ _ z => False.elim z)
          have gone : ∀ {τ6 : L2.St} {G6 : Hp} {Q : Shared → Prop}, Inv (X.suite a ((a, ob4) :: (X.pn ++ pins))) [] τ6 G6 t6 → (∀ t7, Inv X pins (τ6.set i none) G6 t7 → Q t7) →
              wpAny (model X.prog X.w) X.A (do bindName X.env n .none; unbindBehindTheSuite X.env n p2) (fun _ t7 => Q t7) X.xe t6 := fun {τ6 G6 Q} T6 hq => gone_ok (T6.unsuite okX) hN hi hn hq
          cases f with
          | next =>
            obtain ⟨τ6, G6, T6, q6⟩ := done
            exact gone T6 fun t7 J7 => ⟨_, _, J7, q6⟩
          | brk =>
            obtain ⟨τ6, G6, T6, q6⟩ := done
            exact gone T6 fun t7 J7 => ⟨_, _, J7, q6⟩
          | cont =>
            obtain ⟨τ6, G6, T6, q6⟩ := done
            exact gone T6 fun t7 J7 => ⟨_, _, J7, q6⟩
          | ret u =>
            obtain ⟨v6, τ6, G6, T6, r6, q6⟩ := done
            exact gone T6 fun t7 J7 => ⟨_, _, _, J7, r6, q6⟩
    exact walk hh wish
  · cases f with
    | next =>
      obtain ⟨τ, G, J0, q⟩ := done
      exact wpAny_execs_nil ⟨τ, G, J0.ofTry okX, q⟩
    | brk =>
      obtain ⟨τ, G, J0, q⟩ := done
      exact ⟨τ, G, J0.ofTry okX, q⟩
    | cont =>
      obtain ⟨τ, G, J0, q⟩ := done
      exact ⟨τ, G, J0.ofTry okX, q⟩
    | ret u =>
      obtain ⟨v, τ, G, J0, r, q⟩ := done
      exact ⟨v, τ, G, J0.ofTry okX, r, q⟩
end
/-! ### an object made, its __init__ may raise: a try around takes it -/
section
variable {X : Cx} {CX : CXT} {k : Nat} {f C : Addr} {fd : FuncData} {ps : List Str} {sp : Sp} {E : L2.St → XK} {x : Str} {p pos : Pos} {e : Expr} {es : List Expr} {t : TA}
def tMakeS (C : Addr) (sp : Sp) (E : L2.St → XK) (t : TA) : TE := fun σ H Q => t σ H fun vs H1 => ∀ z dz, H1 z = none → H1 dz = none → dz ≠ z → sp (.ref z :: vs) (upd (upd H1 dz (.own z)) z (.ins C dz [])) (fun v H2 => v = .non ∧ Q (.ref z) H2) (E σ)
theorem pe_makeS (M : Mk X.K C f) (F : FnOk X.prog X.w X.K X.mg X.base CX k f fd ps sp) (hr : Room (k + 1) X.A) (hg : Gl X x) (hm : X.mg x = some (.ref C)) (hb : Binds X.K fd ps []) (hx : ∀ σ, PassesAt CX X σ (E σ)) (ha : PA X (e :: es) t)
    (dbg : (x == ("__debug__" : Str)) = false := by decide) (st : starEach (e :: es) X.env = (false, eval e X.env) :: starEach es X.env := by rfl) (pl : (backTo pos (starEach es X.env)).any (·.1) = false := by rfl) :
    PE X (.Call (.Name x p) (e :: es) [] pos) (tMakeS C sp E t) := by
  refine ⟨fun pins s σ H Q I h => wpAny_Call_Name_kw (ld_glob I hg hm ?_ dbg)⟩
  refine PySem.W.callWith_K (h₀ := X.base) I.ok.mod.kin M.kp (thn (ha.run pos pins s σ H _ I h) fun us t1 ⟨vs, H1, I1, r, wish⟩ => ⟨I1.kIn, ?_⟩) st pl
  have q1 := wish (t1.heap.objs.size + 1) t1.heap.objs.size (I1.hok.fresh (Nat.le_succ _)) (I1.hok.fresh (Nat.le_refl _)) (Nat.ne_of_lt (Nat.lt_succ_self _))
  have J := Inv.made (C := C) I1
  have rr : Vals (V.ref (t1.heap.objs.size + 1) :: vs) (Value.ref (t1.heap.objs.size + 1) :: us) := .cons rfl r
  have len : (Value.ref (t1.heap.objs.size + 1) :: us ++ []).length = ps.length := by
    rw [← F.len _ _ _ _ q1, rr.length, List.append_nil]
  have bn := hb _ (Value.ref (t1.heap.objs.size + 1) :: us) J.kIn len
  rw [List.append_nil] at bn
  refine wpAny_call (make_map (f := f) I1.kIn M.makes M.init (beq_iff_eq.mp M.fn) (codeAny_mono (F.run _ X.stack _ _ ⟨Value.ref (t1.heap.objs.size + 1) :: us, []⟩ _ _ _ _ (hr.make C us []) (J.env0.make C us []) bn rr q1) fun r t2 got => ?_))
  cases r with
  | error er => exact hx σ pins _ _ er t2 J got
  | ok fl =>
    cases fl with
    | ret u =>
      obtain ⟨v, H3, J3, rv, ev, q3⟩ := J.after got
      subst ev
      exact ⟨rv, ⟨V.ref (t1.heap.objs.size + 1), H3, J3, rfl, q3⟩⟩
    | next => exact False.elim got
    | brk => exact False.elim got
    | cont => exact False.elim got
end
/-! ### isinstance(e, c) of a caught error whose class is one of several -/
def rIsXa (K : PySem.W.Frag) (a : Addr) (cls : Value) (d : Option Addr) : List V → Hp → VK → Prop := fun xs H Q => ∃ D : Addr, ExcC K D ∧ rIsX K D a cls d xs H Q
theorem call_isXa {X : Cx} {a : Addr} {oe : Obj} {cls : Value} {d : Option Addr} {pn : List (Addr × Obj)} (hz : Zc cls d oe) (hf : ∃ vs, oe.data = .fields vs) : CallR (X.suite a ((a, oe) :: pn)) (.builtin "isinstance") (rIsXa X.K a cls d) := fun pins s σ H xs us Q I r h => by
  obtain ⟨D, C, h⟩ := h
  exact call_isX C hz hf pins s σ H xs us Q I r h
theorem kit_err {K : PySem.W.Frag} {C : Addr} {T : String} (hm : PySem.W.kitMeta T = true) (h : PySem.W.subIn K (.ref C) (.type T) = some true) : PySem.W.kitOne K (.ref C) (.type T) = some true := by
  unfold PySem.W.kitOne
  rw [if_neg (by simp)]
  show (if PySem.W.kitMeta T = true then PySem.W.subIn K (.ref C) (.type T) else none) = some true
  rw [if_pos hm]
  exact h
/-! ### a text that is no key of a dict of the top -/
def keyStr (e : DictEntry) : Str := match e.key with | .str x _ => x | _ => ""
theorem ns_none {K : PySem.W.Frag} {w : World} {d : Addr} {es : Array DictEntry} {n : Nat} (D : KDict K w d es n) {ks : List Str} (h : es.toList.map keyStr = ks) {z : Str} (hz : z ∉ ks) : PySem.W.nsIn K d z = some none := by
  have keys := fun e (he : e ∈ es.toList) => PySem.W.KeysLit.all D.lit e he
  have no : es.toList.find? (fun e => e.key.isStr z) = none := List.find?_eq_none.mpr fun e he => by
    obtain ⟨x, t, hk, _⟩ := keys e he
    rw [hk]
    show ¬ (x == z) = true
    intro q
    refine hz ?_
    rw [← h, ← eq_of_beq q]
    refine List.mem_map.mpr ⟨e, he, ?_⟩
    unfold keyStr
    rw [hk]
  have nr : es.toList.any (fun e => e.refKey) = false := List.any_eq_false.mpr fun e he => by
    obtain ⟨x, t, hk, _⟩ := keys e he
    unfold DictEntry.refKey
    rw [hk]
    exact fun q => Bool.noConfusion q
  unfold PySem.W.nsIn
  rw [D.at_]
  show (match es.toList.find? (fun e => e.key.isStr z) with | some e => some (some e.val) | none => if es.toList.any (fun e => e.refKey) = true then none else some none) = some none
  rw [no, nr]
  rfl
/-! ### heaps -/
theorem same_upd {H : Hp} {p : Addr} {o : HO} (h : H p = none) : Same H (upd H p o) := fun b x e => by
  rw [upd_ne (ne_of_none e h)]
  exact e
theorem Same.tup {K : PySem.W.Frag} {H H' : Hp} {a : Addr} {xs : List V} (e : Same H H') (h : SqT K H a xs) : SqT K H' a xs := by
  rcases h with (h | ⟨o, h⟩) | h
  · exact .inl (.inl (e _ _ h))
  · exact .inl (.inr ⟨o, e _ _ h⟩)
  · exact .inr h
theorem ixN_nat {n j : Nat} (hj : j < n) : ixN n (j : Int) = some j := by
  unfold ixN
  rw [if_pos (by omega), if_pos (by omega), Int.toNat_natCast]
theorem iteD {c A B : Prop} [Decidable c] (hc : c) (h : A) : if decide c = true then A else B := by
  rw [decide_eq_true hc]
  exact iteT h
theorem iteND {c A B : Prop} [Decidable c] (hc : ¬ c) (h : B) : if decide c = true then A else B := by
  rw [decide_eq_false hc]
  exact iteF h
theorem iteB {b : Bool} {A B : Prop} (hb : b = true) (h : A) : if b = true then A else B := by
  rw [hb]
  exact iteT h
theorem iteNB {b : Bool} {A B : Prop} (hb : b = false) (h : B) : if b = true then A else B := by
  rw [hb]
  exact iteF h
/-! ### walks: a text in a comprehension, enumerate -/
theorem lc_str {x : Str} {g : TG} {tt : TT} {te : TE} {vs : List Nat} {σ : L2.St} {H1 : Hp} {D : Addr} {Qd : Hp → Prop} (Pv : Nat → Hp → Prop) (h0 : Pv 0 (upd H1 D (.lst [])))
    (hs : ∀ i c H, x.cps[i]? = some c → Pv i H → g (.str ⟨#[c]⟩) (wipe σ vs) H fun σ2 H2 => wipe σ2 vs = wipe σ vs ∧ tt σ2 H2 fun b H3 =>
      if b = true then te σ2 H3 fun y H4 => ∃ acc, H4 D = some (.lst acc) ∧ acc.length < sizeLine ∧ Pv (i + 1) (upd H4 D (.lst (acc ++ [y]))) else Pv (i + 1) H3) (hd : ∀ H, Pv x.cps.size H → Qd H) :
    ∃ W : Nat → Nat → Hp → Prop, (∃ m, W 0 m (upd H1 D (.lst []))) ∧ ∀ i m H, W i m H →
      ((Its x).stop i H ∧ Qd H) ∨ ((Its x).go i H ∧ ∃ Nx : Hp → Prop, (∀ H', Nx H' → ∃ m', m' < m ∧ W (i + 1) m' H') ∧ ∀ v H', (Its x).yld i H v H' → g v (wipe σ vs) H' fun σ2 H2 => wipe σ2 vs = wipe σ vs ∧ tt σ2 H2 fun b H3 =>
        if b = true then te σ2 H3 fun y H4 => ∃ acc, H4 D = some (.lst acc) ∧ acc.length < sizeLine ∧ Nx (upd H4 D (.lst (acc ++ [y]))) else Nx H3) := by
  refine ⟨fun i m H => m = x.cps.size - i ∧ i ≤ x.cps.size ∧ Pv i H, ⟨_, rfl, Nat.zero_le _, h0⟩, ?_⟩
  rintro i m H ⟨rfl, hi, p⟩
  by_cases hlt : i < x.cps.size
  · refine .inr ⟨hlt, Pv (i + 1), fun H' p' => ⟨x.cps.size - (i + 1), by omega, rfl, hlt, p'⟩, fun v H' y => ?_⟩
    obtain ⟨e, c, hc, e2⟩ := y
    subst e e2
    exact hs i c _ hc p
  · have e : i = x.cps.size := by omega
    subst e
    exact .inl ⟨Nat.le_refl _, hd H p⟩
theorem for_enum {K : PySem.W.Frag} {a : Addr} {xs : List V} {g : TG} {tb : TS} {D : Ends} {σ : L2.St} {H : Hp} (Pv : Nat → L2.St → Hp → Prop) (h0 : Pv 0 σ H) (hl : ∀ i σ H, i ≤ xs.length → Pv i σ H → SqL K H a xs)
    (hs : ∀ i x σ H T, xs[i]? = some x → Pv i σ H → H T = none → g (.ref T) σ (upd H T (.tup [.int (i : Nat), x])) fun σ2 H2 => tb { D with nx := Pv (i + 1), ct := Pv (i + 1), bk := D.nx } σ2 H2) (hd : ∀ σ H, Pv xs.length σ H → D.nx σ H) :
    ∃ W : Nat → Nat → L2.St → Hp → Prop, (∃ m, W 0 m σ H) ∧ ∀ i m σ H, W i m σ H →
      ((Ite K a).stop i H ∧ D.nx σ H) ∨ ((Ite K a).go i H ∧ ∃ N : L2.St → Hp → Prop, (∀ σ' H', N σ' H' → ∃ m', m' < m ∧ W (i + 1) m' σ' H') ∧ ∀ x H', (Ite K a).yld i H x H' → g x σ H' fun σ2 H2 => tb { D with nx := N, ct := N, bk := D.nx } σ2 H2) := by
  refine ⟨fun i m σ H => m = xs.length - i ∧ i ≤ xs.length ∧ Pv i σ H, ⟨_, rfl, Nat.zero_le _, h0⟩, ?_⟩
  rintro i m σ H ⟨rfl, hi, p⟩
  have q := hl i σ H hi p
  by_cases hlt : i < xs.length
  · refine .inr ⟨⟨xs, xs[i], q, List.getElem?_eq_getElem hlt⟩, Pv (i + 1), fun σ' H' p' => ⟨xs.length - (i + 1), by omega, rfl, hlt, p'⟩, fun v H' y => ?_⟩
    obtain ⟨T, x, e1, hT, e2, hx⟩ := y
    subst e1 e2
    exact hs i x σ H T (hx xs q) p hT
  · have e : i = xs.length := by omega
    subst e
    exact .inl ⟨⟨xs, q, Nat.le_refl _⟩, hd σ H p⟩
/-! ### texts -/
def Low (z : Str) : Prop := ∀ c ∈ z.cps.toList, 97 ≤ c ∧ c ≤ 122
structure Nm (z : Str) : Prop where
  pos : 1 ≤ z.length
  few : z.length ≤ 8
  low : Low z
theorem len_l (z : Str) : z.length = z.cps.toList.length := by simp [Str.length]
theorem inV_str (z : Str) : ∀ ss : List Str, inV (.str z) (ss.map V.str) = decide (z ∈ ss)
  | [] => rfl
  | a :: r => by
    have ih := inV_str z r
    unfold inV at ih ⊢
    rw [List.map_cons, List.any_cons, ih]
    show ((a == z) || decide (z ∈ r)) = decide (z ∈ a :: r)
    by_cases h : a = z
    · subst h
      simp
    · have h2 : (a == z) = false := beq_eq_false_iff_ne.mpr h
      rw [h2, Bool.false_or]
      by_cases h3 : z ∈ r
      · rw [decide_eq_true h3, decide_eq_true (List.mem_cons_of_mem _ h3)]
      · rw [decide_eq_false h3, decide_eq_false (fun m => by rcases List.mem_cons.mp m with e | e; exact h e.symm; exact h3 e)]
theorem flat_strs : ∀ ss : List Str, (ss.map V.str).all flatV = true
  | [] => rfl
  | _ :: r => by
    rw [List.map_cons, List.all_cons, flat_strs r]
    rfl
theorem cut_take (xs : List V) (i : Nat) : cutV xs none (some (i : Int)) = xs.take i := by
  unfold cutV
  rw [HT.sIx_none, show HT.sIx xs.length xs.length (some (i : Int)) = min i xs.length from HT.sIx_nat _ _ i, List.drop_zero, Nat.sub_zero]
  by_cases h : i ≤ xs.length
  · rw [Nat.min_eq_left h]
  · rw [Nat.min_eq_right (by omega), List.take_of_length_le (Nat.le_refl _), List.take_of_length_le (by omega)]
theorem cut_drop (xs : List V) (i : Nat) : cutV xs (some (i : Int)) none = xs.drop i := by
  unfold cutV
  rw [HT.sIx_none, show HT.sIx xs.length 0 (some (i : Int)) = min i xs.length from HT.sIx_nat _ _ i]
  by_cases h : i ≤ xs.length
  · rw [Nat.min_eq_left h]
    exact List.take_of_length_le (by rw [List.length_drop]; exact Nat.le_refl _)
  · rw [Nat.min_eq_right (by omega), Nat.sub_self, List.take_zero, List.drop_eq_nil_of_le (by omega)]
def six : List Str := ["before", "upto", "same", "apart", "far", "next"]
def two : List Str := ["first", "last"]
/-- a tuple that is a rule of these tasks -/
def RuleOk (ts : List Str) (l : List Str) : Prop :=
  (∃ k x, k ∈ two ∧ x ∈ ts ∧ l = [k, x]) ∨ ∃ k x y, k ∈ six ∧ x ∈ ts ∧ y ∈ ts ∧ x ≠ y ∧ l = [k, x, y]
structure TasksOk (ts : List Str) : Prop where
  ne : ts ≠ []
  nm : ∀ z ∈ ts, Nm z
  nd : ts.Nodup
  few : ts.length ≤ 100
def topS (i : Nat) : Stmt := PySem.Challenge.pw_plandays_k03_rules_let_and_refused.main.body.getD i (.Pass ⟨0, 0, 0, 0⟩)
abbrev s_PlanError_init : Stmt := inClass (topS 2) 0
theorem sc_PlanError_init : FnScope ["self", "value"] ["self", "value"] (defScope s_PlanError_init) := ⟨rfl, rfl, rfl, by decide +kernel, rfl, by decide +kernel, by decide +kernel⟩
abbrev s_is_name : Stmt := topS 12
theorem sc_is_name : FnScope ["text", "sign"] ["text"] (defScope s_is_name) := ⟨rfl, rfl, rfl, by decide +kernel, rfl, by decide +kernel, by decide +kernel⟩
abbrev s_check_tasks : Stmt := topS 13
theorem sc_check_tasks : FnScope ["tasks", "seen", "name"] ["tasks"] (defScope s_check_tasks) := ⟨rfl, rfl, rfl, by decide +kernel, rfl, by decide +kernel, by decide +kernel⟩
abbrev s_check_rule : Stmt := topS 14
theorem sc_check_rule : FnScope ["rule", "tasks", "name"] ["rule", "tasks"] (defScope s_check_rule) := ⟨rfl, rfl, rfl, by decide +kernel, rfl, by decide +kernel, by decide +kernel⟩
abbrev s_Book_init : Stmt := inClass (topS 15) 0
theorem sc_Book_init : FnScope ["self", "tasks", "rules", "rule"] ["self", "tasks", "rules"] (defScope s_Book_init) := ⟨rfl, rfl, rfl, by decide +kernel, rfl, by decide +kernel, by decide +kernel⟩
abbrev s_Book_tasks : Stmt := inClass (topS 15) 1
theorem sc_Book_tasks : FnScope ["self"] ["self"] (defScope s_Book_tasks) := ⟨rfl, rfl, rfl, by decide +kernel, rfl, by decide +kernel, by decide +kernel⟩
abbrev s_Book_rules : Stmt := inClass (topS 15) 2
theorem sc_Book_rules : FnScope ["self"] ["self"] (defScope s_Book_rules) := ⟨rfl, rfl, rfl, by decide +kernel, rfl, by decide +kernel, by decide +kernel⟩
abbrev s_Book_with_rules : Stmt := inClass (topS 15) 4
theorem sc_Book_with_rules : FnScope ["self", "rules"] ["self", "rules"] (defScope s_Book_with_rules) := ⟨rfl, rfl, rfl, by decide +kernel, rfl, by decide +kernel, by decide +kernel⟩
abbrev s_Book_len : Stmt := inClass (topS 15) 12
theorem sc_Book_len : FnScope ["self"] ["self"] (defScope s_Book_len) := ⟨rfl, rfl, rfl, by decide +kernel, rfl, by decide +kernel, by decide +kernel⟩
abbrev s_law_deck : Stmt := topS 17
theorem sc_law_deck : FnScope ["script", "mixed", "cell", "great"] ["script"] (defScope s_law_deck) := ⟨rfl, rfl, rfl, by decide +kernel, rfl, by decide +kernel, by decide +kernel⟩
abbrev s_law_draw : Stmt := topS 18
theorem sc_law_draw : FnScope ["deck", "many", "one"] ["deck", "many"] (defScope s_law_draw) := ⟨rfl, rfl, rfl, by decide +kernel, rfl, by decide +kernel, by decide +kernel⟩
abbrev s_law_names : Stmt := topS 19
theorem sc_law_names : FnScope ["deck", "many", "letters", "words", "way", "stem", "found", "k", "at", "name", "m", "one"] ["deck", "many"] (defScope s_law_names) := ⟨rfl, rfl, rfl, by decide +kernel, rfl, by decide +kernel, by decide +kernel⟩
abbrev s_law_rule : Stmt := topS 20
theorem sc_law_rule : FnScope ["deck", "task_list", "kinds", "kind", "one"] ["deck", "task_list"] (defScope s_law_rule) := ⟨rfl, rfl, rfl, by decide +kernel, rfl, by decide +kernel, by decide +kernel⟩
abbrev s_law_data : Stmt := topS 21
theorem sc_law_data : FnScope ["deck", "most_tasks", "most_rules", "task_list", "rule_list", "k"] ["deck", "most_tasks", "most_rules"] (defScope s_law_data) := ⟨rfl, rfl, rfl, by decide +kernel, rfl, by decide +kernel, by decide +kernel⟩
abbrev s_law_order : Stmt := topS 22
theorem sc_law_order : FnScope ["deck", "many", "left", "k"] ["deck", "many"] (defScope s_law_order) := ⟨rfl, rfl, rfl, by decide +kernel, rfl, by decide +kernel, by decide +kernel⟩
abbrev s_law_shows : Stmt := topS 23
theorem sc_law_shows : FnScope ["deck", "book", "task_list", "rule_list", "at", "told", "many", "name", "rule"] ["deck", "book", "task_list", "rule_list"] (defScope s_law_shows) := ⟨rfl, rfl, rfl, by decide +kernel, rfl, by decide +kernel, by decide +kernel⟩
abbrev s_law_strange : Stmt := topS 24
theorem sc_law_strange : FnScope ["deck", "task_list", "signs", "way", "word", "at", "k"] ["deck", "task_list"] (defScope s_law_strange) := ⟨rfl, rfl, rfl, by decide +kernel, rfl, by decide +kernel, by decide +kernel⟩
abbrev s_law_bad_rule : Stmt := topS 25
theorem sc_law_bad_rule : FnScope ["deck", "task_list", "rule", "way", "kind", "k"] ["deck", "task_list"] (defScope s_law_bad_rule) := ⟨rfl, rfl, rfl, by decide +kernel, rfl, by decide +kernel, by decide +kernel⟩
abbrev s_law_rule_due : Stmt := topS 26
theorem sc_law_rule_due : FnScope ["task_list", "rule_list", "rule", "many", "name"] ["task_list", "rule_list"] (defScope s_law_rule_due) := ⟨rfl, rfl, rfl, by decide +kernel, rfl, by decide +kernel, by decide +kernel⟩
abbrev s_law_call : Stmt := topS 27
theorem sc_law_call : FnScope ["book", "task_list", "rule_list", "way"] ["book", "task_list", "rule_list", "way"] (defScope s_law_call) := ⟨rfl, rfl, rfl, by decide +kernel, rfl, by decide +kernel, by decide +kernel⟩
abbrev s_law_raised : Stmt := topS 28
theorem sc_law_raised : FnScope ["book", "task_list", "rule_list", "way", "word", "worth", "e"] ["book", "task_list", "rule_list", "way"] (defScope s_law_raised) := ⟨rfl, rfl, rfl, by decide +kernel, rfl, by decide +kernel, by decide +kernel⟩
abbrev s_law_based : Stmt := topS 29
theorem sc_law_based : FnScope ["book", "task_list", "rule_list", "way", "based", "e"] ["book", "task_list", "rule_list", "way"] (defScope s_law_based) := ⟨rfl, rfl, rfl, by decide +kernel, rfl, by decide +kernel, by decide +kernel⟩
abbrev s_law_taken_later : Stmt := topS 30
theorem sc_law_taken_later : FnScope ["deck", "task_list", "rule", "names", "letters", "name", "more", "sign"] ["deck", "task_list", "rule"] (defScope s_law_taken_later) := ⟨rfl, rfl, rfl, by decide +kernel, rfl, by decide +kernel, by decide +kernel⟩
abbrev s_law : Stmt := topS 31
theorem sc_law : FnScope ["script", "deck", "k", "task_list", "own", "book", "rule_list", "bad", "rule", "due", "way", "names", "given", "expected", "made", "m"] ["script"] (defScope s_law) := ⟨rfl, rfl, rfl, by decide +kernel, rfl, by decide +kernel, by decide +kernel⟩
/-- what the top has written, as the walks ask it -/
structure Tx (K : PySem.W.Frag) (w : World) (mg : Str → Option Value) where
  C_Book : Addr
  cl_Book : Cls K C_Book
  mg_Book : mg "Book" = some (.ref C_Book)
  n_Book_tasks : NoAttr K C_Book "_tasks"
  n_Book_rules : NoAttr K C_Book "_rules"
  d__TASKS_IN : Addr
  e__TASKS_IN : Array DictEntry
  i__TASKS_IN : Nat
  g__TASKS_IN : mg "_TASKS_IN" = some (.ref d__TASKS_IN)
  kd__TASKS_IN : KDict K w d__TASKS_IN e__TASKS_IN i__TASKS_IN
  ks__TASKS_IN : e__TASKS_IN.toList.map keyStr = (["before", "upto", "same", "apart", "far", "next", "first", "last"] : List Str)
  k__TASKS_IN_before : ∃ t, PySem.W.nsIn K d__TASKS_IN "before" = some (some (.int 2 t))
  k__TASKS_IN_upto : ∃ t, PySem.W.nsIn K d__TASKS_IN "upto" = some (some (.int 2 t))
  k__TASKS_IN_same : ∃ t, PySem.W.nsIn K d__TASKS_IN "same" = some (some (.int 2 t))
  k__TASKS_IN_apart : ∃ t, PySem.W.nsIn K d__TASKS_IN "apart" = some (some (.int 2 t))
  k__TASKS_IN_far : ∃ t, PySem.W.nsIn K d__TASKS_IN "far" = some (some (.int 2 t))
  k__TASKS_IN_next : ∃ t, PySem.W.nsIn K d__TASKS_IN "next" = some (some (.int 2 t))
  k__TASKS_IN_first : ∃ t, PySem.W.nsIn K d__TASKS_IN "first" = some (some (.int 1 t))
  k__TASKS_IN_last : ∃ t, PySem.W.nsIn K d__TASKS_IN "last" = some (some (.int 1 t))
  t__LONGEST_NAME : Tok
  v__LONGEST_NAME : mg "_LONGEST_NAME" = some (.int 8 t__LONGEST_NAME)
  f_PlanError_init : Addr
  C_InvalidRule : Addr
  mg_InvalidRule : mg "InvalidRule" = some (.ref C_InvalidRule)
  ox_InvalidRule : OexC K C_InvalidRule
  ic_InvalidRule : PySem.W.findIn K (.ref C_InvalidRule) "__init__" = some (some (.ref f_PlanError_init))
  nv_InvalidRule : PySem.W.findIn K (.ref C_InvalidRule) "value" = some none
  xf_InvalidRule : XfC K C_InvalidRule
  C_UnknownTask : Addr
  mg_UnknownTask : mg "UnknownTask" = some (.ref C_UnknownTask)
  ox_UnknownTask : OexC K C_UnknownTask
  ic_UnknownTask : PySem.W.findIn K (.ref C_UnknownTask) "__init__" = some (some (.ref f_PlanError_init))
  nv_UnknownTask : PySem.W.findIn K (.ref C_UnknownTask) "value" = some none
  xf_UnknownTask : XfC K C_UnknownTask
  C_SameTask : Addr
  mg_SameTask : mg "SameTask" = some (.ref C_SameTask)
  ox_SameTask : OexC K C_SameTask
  ic_SameTask : PySem.W.findIn K (.ref C_SameTask) "__init__" = some (some (.ref f_PlanError_init))
  nv_SameTask : PySem.W.findIn K (.ref C_SameTask) "value" = some none
  xf_SameTask : XfC K C_SameTask
  ti : PySem.W.typeIn K (.ref f_PlanError_init) = some (.type "function")
  xc_InvalidRule : ExcC K C_InvalidRule
  xc_UnknownTask : ExcC K C_UnknownTask
  xc_SameTask : ExcC K C_SameTask
  C_PlanError : Addr
  mg_PlanError : mg "PlanError" = some (.ref C_PlanError)
  em_InvalidRule_InvalidRule : PySem.W.exmOne K (.ref C_InvalidRule) (.ref C_InvalidRule) = some true
  em_UnknownTask_UnknownTask : PySem.W.exmOne K (.ref C_UnknownTask) (.ref C_UnknownTask) = some true
  em_SameTask_SameTask : PySem.W.exmOne K (.ref C_SameTask) (.ref C_SameTask) = some true
  em_InvalidRule_PlanError : PySem.W.exmOne K (.ref C_InvalidRule) (.ref C_PlanError) = some true
  em_UnknownTask_PlanError : PySem.W.exmOne K (.ref C_UnknownTask) (.ref C_PlanError) = some true
  em_SameTask_PlanError : PySem.W.exmOne K (.ref C_SameTask) (.ref C_PlanError) = some true
  en_UnknownTask_InvalidRule : PySem.W.exmOne K (.ref C_UnknownTask) (.ref C_InvalidRule) = some false
  en_SameTask_InvalidRule : PySem.W.exmOne K (.ref C_SameTask) (.ref C_InvalidRule) = some false
  en_SameTask_UnknownTask : PySem.W.exmOne K (.ref C_SameTask) (.ref C_UnknownTask) = some false
  d_PlanError_init : FuncData
  F_PlanError_init : Fun K "__init__" "PlanError.__init__" s_PlanError_init f_PlanError_init d_PlanError_init
  b_PlanError_init : Binds K d_PlanError_init ["self", "value"] []
  f_is_name : Addr
  d_is_name : FuncData
  F_is_name : Fun K "_is_name" "_is_name" s_is_name f_is_name d_is_name
  b_is_name : Binds K d_is_name ["text"] []
  g_is_name : mg "_is_name" = some (.ref f_is_name)
  f_check_tasks : Addr
  d_check_tasks : FuncData
  F_check_tasks : Fun K "_check_tasks" "_check_tasks" s_check_tasks f_check_tasks d_check_tasks
  b_check_tasks : Binds K d_check_tasks ["tasks"] []
  g_check_tasks : mg "_check_tasks" = some (.ref f_check_tasks)
  f_check_rule : Addr
  d_check_rule : FuncData
  F_check_rule : Fun K "_check_rule" "_check_rule" s_check_rule f_check_rule d_check_rule
  b_check_rule : Binds K d_check_rule ["rule", "tasks"] []
  g_check_rule : mg "_check_rule" = some (.ref f_check_rule)
  f_Book_init : Addr
  d_Book_init : FuncData
  F_Book_init : Fun K "__init__" "Book.__init__" s_Book_init f_Book_init d_Book_init
  b_Book_init : Binds K d_Book_init ["self", "tasks", "rules"] []
  mk_Book : Mk K C_Book f_Book_init
  f_Book_tasks : Addr
  d_Book_tasks : FuncData
  F_Book_tasks : Fun K "tasks" "Book.tasks" s_Book_tasks f_Book_tasks d_Book_tasks
  b_Book_tasks : Binds K d_Book_tasks ["self"] []
  p_Book_tasks : Addr
  pr_Book_tasks : PropOf K C_Book "tasks" p_Book_tasks f_Book_tasks
  f_Book_rules : Addr
  d_Book_rules : FuncData
  F_Book_rules : Fun K "rules" "Book.rules" s_Book_rules f_Book_rules d_Book_rules
  b_Book_rules : Binds K d_Book_rules ["self"] []
  p_Book_rules : Addr
  pr_Book_rules : PropOf K C_Book "rules" p_Book_rules f_Book_rules
  f_Book_with_rules : Addr
  d_Book_with_rules : FuncData
  F_Book_with_rules : Fun K "with_rules" "Book.with_rules" s_Book_with_rules f_Book_with_rules d_Book_with_rules
  b_Book_with_rules : Binds K d_Book_with_rules ["self", "rules"] []
  me_Book_with_rules : Meth K C_Book "with_rules" f_Book_with_rules
  f_Book_len : Addr
  d_Book_len : FuncData
  F_Book_len : Fun K "__len__" "Book.__len__" s_Book_len f_Book_len d_Book_len
  b_Book_len : Binds K d_Book_len ["self"] []
  me_Book_len : Meth K C_Book "__len__" f_Book_len
  f_law_deck : Addr
  d_law_deck : FuncData
  F_law_deck : Fun K "_law_deck" "_law_deck" s_law_deck f_law_deck d_law_deck
  b_law_deck : Binds K d_law_deck ["script"] []
  g_law_deck : mg "_law_deck" = some (.ref f_law_deck)
  f_law_draw : Addr
  d_law_draw : FuncData
  F_law_draw : Fun K "_law_draw" "_law_draw" s_law_draw f_law_draw d_law_draw
  b_law_draw : Binds K d_law_draw ["deck", "many"] []
  g_law_draw : mg "_law_draw" = some (.ref f_law_draw)
  f_law_names : Addr
  d_law_names : FuncData
  F_law_names : Fun K "_law_names" "_law_names" s_law_names f_law_names d_law_names
  b_law_names : Binds K d_law_names ["deck", "many"] []
  g_law_names : mg "_law_names" = some (.ref f_law_names)
  f_law_rule : Addr
  d_law_rule : FuncData
  F_law_rule : Fun K "_law_rule" "_law_rule" s_law_rule f_law_rule d_law_rule
  b_law_rule : Binds K d_law_rule ["deck", "task_list"] []
  g_law_rule : mg "_law_rule" = some (.ref f_law_rule)
  f_law_data : Addr
  d_law_data : FuncData
  F_law_data : Fun K "_law_data" "_law_data" s_law_data f_law_data d_law_data
  b_law_data : Binds K d_law_data ["deck", "most_tasks", "most_rules"] []
  g_law_data : mg "_law_data" = some (.ref f_law_data)
  f_law_order : Addr
  d_law_order : FuncData
  F_law_order : Fun K "_law_order" "_law_order" s_law_order f_law_order d_law_order
  b_law_order : Binds K d_law_order ["deck", "many"] []
  g_law_order : mg "_law_order" = some (.ref f_law_order)
  f_law_shows : Addr
  d_law_shows : FuncData
  F_law_shows : Fun K "_law_shows" "_law_shows" s_law_shows f_law_shows d_law_shows
  b_law_shows : Binds K d_law_shows ["deck", "book", "task_list", "rule_list"] []
  g_law_shows : mg "_law_shows" = some (.ref f_law_shows)
  f_law_strange : Addr
  d_law_strange : FuncData
  F_law_strange : Fun K "_law_strange" "_law_strange" s_law_strange f_law_strange d_law_strange
  b_law_strange : Binds K d_law_strange ["deck", "task_list"] []
  g_law_strange : mg "_law_strange" = some (.ref f_law_strange)
  f_law_bad_rule : Addr
  d_law_bad_rule : FuncData
  F_law_bad_rule : Fun K "_law_bad_rule" "_law_bad_rule" s_law_bad_rule f_law_bad_rule d_law_bad_rule
  b_law_bad_rule : Binds K d_law_bad_rule ["deck", "task_list"] []
  g_law_bad_rule : mg "_law_bad_rule" = some (.ref f_law_bad_rule)
  f_law_rule_due : Addr
  d_law_rule_due : FuncData
  F_law_rule_due : Fun K "_law_rule_due" "_law_rule_due" s_law_rule_due f_law_rule_due d_law_rule_due
  b_law_rule_due : Binds K d_law_rule_due ["task_list", "rule_list"] []
  g_law_rule_due : mg "_law_rule_due" = some (.ref f_law_rule_due)
  f_law_call : Addr
  d_law_call : FuncData
  F_law_call : Fun K "_law_call" "_law_call" s_law_call f_law_call d_law_call
  b_law_call : Binds K d_law_call ["book", "task_list", "rule_list", "way"] []
  g_law_call : mg "_law_call" = some (.ref f_law_call)
  f_law_raised : Addr
  d_law_raised : FuncData
  F_law_raised : Fun K "_law_raised" "_law_raised" s_law_raised f_law_raised d_law_raised
  b_law_raised : Binds K d_law_raised ["book", "task_list", "rule_list", "way"] []
  g_law_raised : mg "_law_raised" = some (.ref f_law_raised)
  f_law_based : Addr
  d_law_based : FuncData
  F_law_based : Fun K "_law_based" "_law_based" s_law_based f_law_based d_law_based
  b_law_based : Binds K d_law_based ["book", "task_list", "rule_list", "way"] []
  g_law_based : mg "_law_based" = some (.ref f_law_based)
  f_law_taken_later : Addr
  d_law_taken_later : FuncData
  F_law_taken_later : Fun K "_law_taken_later" "_law_taken_later" s_law_taken_later f_law_taken_later d_law_taken_later
  b_law_taken_later : Binds K d_law_taken_later ["deck", "task_list", "rule"] []
  g_law_taken_later : mg "_law_taken_later" = some (.ref f_law_taken_later)
  f_law : Addr
  d_law : FuncData
  F_law : Fun K "law" "law" s_law f_law d_law
  b_law : Binds K d_law ["script"] []
  g_law : mg "law" = some (.ref f_law)
  m_ValueError : mg "ValueError" = none
  m_all : mg "all" = none
  m_int : mg "int" = none
  m_isinstance : mg "isinstance" = none
  m_len : mg "len" = none
  m_list : mg "list" = none
  m_range : mg "range" = none
  m_str : mg "str" = none
  m_tuple : mg "tuple" = none
  xa_Book : PySem.W.findIn K (.ref C_Book) "__class__" = some (some (.builtin "object.__class__"))
  xn_Book : PySem.W.specialIn K (.builtin "object.__class__") "__get__" = some (some (.builtin "getset_descriptor.__get__"))
  xt_Book : PySem.W.takesIn K (.builtin "object.__class__") = some true
  xm_Book : PySem.W.mroIn K C_Book (.type "object") = some true
  kv_InvalidRule : PySem.W.kitOne K (.ref C_InvalidRule) (.type "ValueError") = some true
  kv_UnknownTask : PySem.W.kitOne K (.ref C_UnknownTask) (.type "ValueError") = some true
  kv_SameTask : PySem.W.kitOne K (.ref C_SameTask) (.type "ValueError") = some true
section
variable {P : Program} {w : World} {K : PySem.W.Frag} {mg : Str → Option Value} {base : Heap}
/-! ### the program's defs -/
def sp_isname : Sp := fun vs H Q _ => ∃ z, vs = [.str z] ∧ Nm z ∧ ∀ H', Same H H' → Q (.bl true) H'
theorem le_a (c : Nat) (h : 97 ≤ c) : (!decide ((#[c] : Array Nat).toList < (Str.ofString "a").cps.toList)) = true := by
  have : (Str.ofString "a").cps.toList = [97] := by decide +kernel
  rw [this]
  have : ¬ [c] < [97] := by
    intro z
    rcases List.cons_lt_cons_iff.mp z with h1 | ⟨_, h2⟩
    · omega
    · exact absurd h2 (List.not_lt_nil _)
  simpa using this
theorem ge_z (c : Nat) (h : c ≤ 122) : (!decide ((Str.ofString "z").cps.toList < (#[c] : Array Nat).toList)) = true := by
  have : (Str.ofString "z").cps.toList = [122] := by decide +kernel
  rw [this]
  have : ¬ [122] < [c] := by
    intro z
    rcases List.cons_lt_cons_iff.mp z with h1 | ⟨_, h2⟩
    · omega
    · exact absurd h2 (List.not_lt_nil _)
  simpa using this
theorem all_true (n : Nat) : (List.replicate n true).all id = true := by
  induction n with
  | zero => rfl
  | succ n ih => rw [List.replicate_succ, List.all_cons, ih]; rfl
theorem ok_is_name (T : Tx K w mg) : FnOk P w K mg base CX0 1 T.f_is_name T.d_is_name ["text"] sp_isname := by
  refine T.F_is_name.ok sc_is_name (fun vs H Q E h => ?_) (fun cdv A outer s H vs Q E hr h => ?_)
  · obtain ⟨z, rfl, _⟩ := h
    rfl
  · obtain ⟨z, rfl, hn, k⟩ := h
    refine ⟨_,
    (pss_one
      (ps_ret (pe_and (pe_chain op_le op_le pe_int (pe_callB call_len_str (by rfl) T.m_len (by decide +kernel) (pa_cons (pv 0) pa_nil)) (pe_glob (v := .int 8) (by rfl) T.v__LONGEST_NAME ⟨_, rfl⟩)) (pe_one (pe_callB (cr_all rfl) (by rfl) T.m_all (by decide +kernel) (pa_cons (pe_lc (own := [("sign", 1)]) (g := gName 1) rfl sc_is_name.nd (pi_str (pv 0)) (blkOk_by (N := ["text", "sign"]) (sc := defScope s_is_name) (own := [("sign", 1)]) (by decide +kernel)) (fun _ _ _ _ _ => (pg_name (i := 1) sc_is_name.nd rfl (.inl rfl))) (fun _ _ _ _ _ => pts_nil) (fun _ _ _ _ _ => (pe_chain op_le_str op_le_str pe_str (pv 1) pe_str))) pa_nil)))))), ?_⟩
    have few := hn.few
    have pos := hn.pos
    have line : z.length ≤ sizeLine := Nat.le_of_lt (small1000 (by omega))
    refine ⟨_, rfl, _, rfl, line, _, _, rfl, rfl, _, rfl, iteD (by omega) ⟨_, _, rfl, rfl, _, rfl, iteD (by omega) ?_⟩⟩
    refine ⟨_, rfl, z, rfl, fun D hD => ?_⟩
    refine lc_str (fun i H' => i ≤ z.length ∧ H' D = some (.lst ((List.replicate i true).map V.bl)) ∧ Same H H') ?_ ?_ ?_
    · exact ⟨Nat.zero_le _, upd_same, same_upd hD⟩
    · rintro i c H1 hc ⟨hi, eD, sm⟩
      have hm : c ∈ z.cps.toList := by
        have : z.cps.toList[i]? = some c := by simpa using hc
        exact List.mem_of_getElem? this
      have hil : i < z.length := by
        have : i < z.cps.size := by
          rcases Nat.lt_or_ge i z.cps.size with h | h
          · exact h
          · rw [Array.getElem?_eq_none h] at hc; cases hc
        exact this
      obtain ⟨l1, l2⟩ := hn.low c hm
      refine ⟨rfl, _, rfl, _, _, rfl, rfl, _, rfl, iteB (le_a c l1) ⟨_, _, rfl, rfl, (List.replicate i true).map V.bl, eD, ?_, hil, ?_, fun b o e => ?_⟩⟩
      · rw [List.length_map, List.length_replicate]; exact small1000 (by omega)
      · rw [upd_same, ge_z c l2, List.replicate_succ', List.map_append]; rfl
      · rw [upd_ne (ne_of_none e hD)]; exact sm b o e
    · rintro H1 ⟨_, eD, sm⟩
      refine ⟨D, List.replicate z.cps.size true, rfl, .of eD, ?_⟩
      rw [all_true]
      exact k H1 sm
def sp_check_tasks (K : PySem.W.Frag) : Sp := fun vs H Q _ => ∃ t ts, vs = [.ref t] ∧ SqL K H t (ts.map V.str) ∧ TasksOk ts ∧ ∀ H', Same H H' → Q .non H'
theorem not_before {ts : List Str} {i : Nat} {z : Str} (nd : ts.Nodup) (h : ts[i]? = some z) : z ∉ ts.take i := fun m => by
  obtain ⟨j, hj, e⟩ := List.mem_iff_getElem.mp m
  rw [List.length_take] at hj
  rw [List.getElem_take] at e
  obtain ⟨hi, e2⟩ := List.getElem?_eq_some_iff.mp h
  have := (List.getElem_inj nd).mp (e.trans e2.symm)
  omega
theorem seen_new {H H1 : Hp} {d : Addr} {o : HO} (hd : H d = none) (sm : Same H H1) : Same H (upd H1 d o) := fun b x e => by
  rw [upd_ne (ne_of_none e hd)]
  exact sm b x e
theorem ok_check_tasks (T : Tx K w mg) : FnOk P w K mg base CX0 2 T.f_check_tasks T.d_check_tasks ["tasks"] (sp_check_tasks K) := by
  refine T.F_check_tasks.ok sc_check_tasks (fun vs H Q E h => ?_) (fun cdv A outer s H vs Q E hr h => ?_)
  · obtain ⟨t, ts, rfl, _⟩ := h
    rfl
  · obtain ⟨t, ts, rfl, hT, ok, k⟩ := h
    refine ⟨_,
    (pss_cons
      (ps_if (pt_not (pt_truth (pv 0) (by intro _; rfl)))
        (pss_one
          ps_never)
        pss_nil)
    (pss_cons
      (ps_set (i := 1) sc_check_tasks.nd rfl (.inl rfl) pe_dnewK)
    (pss_one
      (ps_for PassesOwn.never rfl (pi_list (pv 0)) (pg_name (i := 2) sc_check_tasks.nd rfl (.inl rfl))
        (pss_cons
          (ps_if (pt_not (pt_val (pe_call (ok_is_name T) hr (by rfl) T.g_is_name T.F_is_name.kp T.b_is_name .nil pass0 (pa_cons (pv 2) pa_nil))))
            (pss_one
              ps_never)
            pss_nil)
        (pss_cons
          (ps_if (pt_cmp (pc_din (hu_of hr) (pv 2) (pv 1)))
            (pss_one
              ps_never)
            pss_nil)
        (pss_one
          (ps_dput (hu_of hr) (pv 1) (pv 2) pe_bl (by rfl))))))))), ?_⟩
    refine ⟨_, rfl, true, .inl ⟨_, hT, ?_⟩, fun d hd => ?_⟩
    · cases ts with
      | nil => exact absurd rfl ok.ne
      | cons a r => rfl
    have sd : Same H (upd H d (.dK [])) := same_upd hd
    refine ⟨_, rfl, t, rfl, ⟨_, sd.seq hT⟩, for_list (xs := ts.map V.str) (fun i σ H' => Same H H' ∧ (∃ kvs : List (Key × V), H' d = some (.dK kvs) ∧ kvs.length ≤ i ∧ ∀ z : Str, (valV kvs (.inr z)).isSome = decide (z ∈ ts.take i)) ∧ ∃ x, σ = [some (.ref t), some (.ref d), x]) ?_ ?_ ?_ ?_⟩
    · exact ⟨sd, ⟨[], upd_same, Nat.le_refl _, fun z => by simp [valV]⟩, none, rfl⟩
    · rintro i σ H' _ ⟨sm, _⟩
      exact sm.seq hT
    · rintro i v σ H1 hi ⟨sm, ⟨kvs, hk, hl, hv⟩, x, rfl⟩
      rw [List.getElem?_map] at hi
      obtain ⟨z, hz, rfl⟩ := Option.map_eq_some_iff.mp hi
      have nz := ok.nm z (List.mem_of_getElem? hz)
      have hit : i < ts.length := (List.getElem?_eq_some_iff.mp hz).1
      have few := ok.few
      refine ⟨_, rfl, z, rfl, nz, fun H2 s2 => ⟨_, rfl, ?_⟩⟩
      have hk2 := s2 _ _ hk
      refine ⟨_, rfl, _, rfl, d, _, rfl, DGet.k (k := .inr z) hk2, _, rfl, iteNB ?_ ?_⟩
      · rw [hv]; exact decide_eq_false (not_before ok.nd hz)
      · refine ⟨_, rfl, _, rfl, d, _, rfl, DPut.k (k := .inr z) hk2 (small1000 (by omega)), seen_new hd (sm.trans s2), ⟨_, upd_same, ?_, fun y => ?_⟩, _, rfl⟩
        · exact Nat.le_trans (length_putK _ _ _) (by omega)
        · rw [valV_put, List.take_add_one, hz]
          by_cases e : y = z
          · subst e
            simp
          · have e2 : ¬ (Sum.inr y : Key) = .inr z := fun q => e (Sum.inr.inj q)
            rw [if_neg e2, hv y]
            simp [e]
    · rintro σ H' ⟨sm, _⟩
      exact k H' sm
theorem ok_PlanError_init (T : Tx K w mg) : FnOk P w K mg base CX0 1 T.f_PlanError_init T.d_PlanError_init ["self", "value"] (sp_einit K) := by
  refine T.F_PlanError_init.ok sc_PlanError_init (fun vs H Q E h => ?_) (fun cdv A outer s H vs Q E hr h => ?_)
  · obtain ⟨a, C, y, rfl, _⟩ := h
    rfl
  · obtain ⟨a, C, y, rfl, ox, nv, ha, k⟩ := h
    refine ⟨_,
    (pss_one
      (ps_ost (pv 0) (pv 1))), ?_⟩
    exact ⟨_, rfl, _, rfl, a, C, rfl, ox, nv, .inl ⟨ha, k⟩⟩
/-! ### a book in the heap -/
theorem kc : ¬ (("_tasks" : Str) = "_rules") := by decide +kernel
def fl (t r : Addr) : List (Str × V) := putF "_rules" (.ref r) (putF "_tasks" (.ref t) [])
theorem fl_t (t r : Addr) : (fl t r).lookup ("_tasks" : Str) = some (.ref t) := by
  unfold fl
  rw [lookup_putF, if_neg kc, lookup_putF, if_pos rfl]
theorem fl_r (t r : Addr) : (fl t r).lookup ("_rules" : Str) = some (.ref r) := by
  unfold fl
  rw [lookup_putF, if_pos rfl]
/-- Book(rules = .., tasks = ..) -/
theorem kb_Book_init (T : Tx K w mg) : KBn K T.d_Book_init ["self", "tasks", "rules"] 1 ["rules", "tasks"] (fun us ws => us ++ ws.reverse) (fun vs zs => vs ++ zs.reverse) := by
  obtain ⟨oc, od, kV, doc, pm, an, cdv, ct, osl, e, _, _⟩ := T.F_Book_init.ex
  refine ⟨fun s us ws _ h1 h2 => ?_, fun r1 r2 => r1.append r2.reverse⟩
  rw [e]
  match us, ws, h1, h2 with
  | [_], [_, _], _, _ => exact BindsTo.of_eq rfl
def sp_get (K : PySem.W.Frag) (C : Addr) (f : Str) : Sp := fun vs H Q _ => ∃ b dx t r a xs, vs = [.ref b] ∧ H b = some (.ins C dx (fl t r)) ∧ (fl t r).lookup f = some (.ref a) ∧ SqL K H a xs ∧ ∀ p, H p = none → Q (.ref p) (upd H p (.lst xs))
theorem ok_Book_tasks (T : Tx K w mg) : FnOk P w K mg base CX0 1 T.f_Book_tasks T.d_Book_tasks ["self"] (sp_get K T.C_Book "_tasks") := by
  refine T.F_Book_tasks.ok sc_Book_tasks (fun vs H Q E h => ?_) (fun cdv A outer s H vs Q E hr h => ?_)
  · obtain ⟨b, dx, t, r, a, xs, rfl, _⟩ := h
    rfl
  · obtain ⟨b, dx, t, r, a, xs, rfl, hb, hf, ha, k⟩ := h
    refine ⟨_,
    (pss_one
      (ps_ret (pe_callTy call_list_of (by rfl) T.m_list (by decide +kernel) (pa_cons (pe_fld (pv 0) rfl) pa_nil)))), ?_⟩
    exact ⟨_, rfl, b, _, dx, _, _, rfl, hb, T.cl_Book, T.n_Book_tasks, hf, a, _, rfl, .inl ha, k⟩
theorem ok_Book_rules (T : Tx K w mg) : FnOk P w K mg base CX0 1 T.f_Book_rules T.d_Book_rules ["self"] (sp_get K T.C_Book "_rules") := by
  refine T.F_Book_rules.ok sc_Book_rules (fun vs H Q E h => ?_) (fun cdv A outer s H vs Q E hr h => ?_)
  · obtain ⟨b, dx, t, r, a, xs, rfl, _⟩ := h
    rfl
  · obtain ⟨b, dx, t, r, a, xs, rfl, hb, hf, ha, k⟩ := h
    refine ⟨_,
    (pss_one
      (ps_ret (pe_callTy call_list_of (by rfl) T.m_list (by decide +kernel) (pa_cons (pe_fld (pv 0) rfl) pa_nil)))), ?_⟩
    exact ⟨_, rfl, b, _, dx, _, _, rfl, hb, T.cl_Book, T.n_Book_rules, hf, a, _, rfl, .inl ha, k⟩
def sp_len (K : PySem.W.Frag) (C : Addr) : Sp := fun vs H Q _ => ∃ b dx t r xs, vs = [.ref b] ∧ H b = some (.ins C dx (fl t r)) ∧ SqL K H r xs ∧ Q (.int xs.length) H
theorem ok_Book_len (T : Tx K w mg) : FnOk P w K mg base CX0 1 T.f_Book_len T.d_Book_len ["self"] (sp_len K T.C_Book) := by
  refine T.F_Book_len.ok sc_Book_len (fun vs H Q E h => ?_) (fun cdv A outer s H vs Q E hr h => ?_)
  · obtain ⟨b, dx, t, r, xs, rfl, _⟩ := h
    rfl
  · obtain ⟨b, dx, t, r, xs, rfl, hb, hr', k⟩ := h
    refine ⟨_,
    (pss_one
      (ps_ret (pe_callB call_len_seq (by rfl) T.m_len (by decide +kernel) (pa_cons (pe_fld (pv 0) rfl) pa_nil)))), ?_⟩
    exact ⟨_, rfl, b, _, dx, _, _, rfl, hb, T.cl_Book, T.n_Book_rules, fl_r t r, r, _, rfl, .inl hr', k⟩
/-! ### the law's deck -/
def Deck (H : Hp) (d g : Addr) : Prop := ∃ (gs : List Int) (a m : Int), H d = some (.lst [.ref g, .int a, .int m]) ∧ H g = some (.lst (gs.map V.int)) ∧ gs.length ≤ 63 ∧ (∀ x ∈ gs, 0 ≤ x) ∧ 0 ≤ a ∧ 0 ≤ m ∧ m < 2147483648
theorem Deck.ne {H : Hp} {d g : Addr} (h : Deck H d g) : d ≠ g := by
  obtain ⟨gs, a, m, h1, h2, _⟩ := h
  intro e
  subst e
  rw [h1] at h2
  cases gs with
  | nil => cases h2
  | cons x r => injection h2 with h2; injection h2 with h2; injection h2 with h2; cases h2
/-- all but the deck is as it was -/
def Kd (d g : Addr) (H H' : Hp) : Prop := ∀ b o, H b = some o → b ≠ d → b ≠ g → H' b = some o
theorem Kd.refl {d g : Addr} (H : Hp) : Kd d g H H := fun _ _ h _ _ => h
theorem Kd.trans {d g : Addr} {H H1 H2 : Hp} (a : Kd d g H H1) (b : Kd d g H1 H2) : Kd d g H H2 := fun x o h n1 n2 => b x o (a x o h n1 n2) n1 n2
theorem Same.kd {d g : Addr} {H H' : Hp} (s : Same H H') : Kd d g H H' := fun b o h _ _ => s b o h
def sp_deck (K : PySem.W.Frag) : Sp := fun vs H Q _ => ∃ (a : Addr) (ns : List Int), vs = [.ref a] ∧ SqL K H a (ns.map V.int) ∧ ns.length ≤ 63 ∧ ∀ d g H', Same H H' → Deck H' d g → Q (.ref d) H'
theorem ok_law_deck (T : Tx K w mg) : FnOk P w K mg base CX0 1 T.f_law_deck T.d_law_deck ["script"] (sp_deck K) := by
  refine T.F_law_deck.ok sc_law_deck (fun vs H Q E h => ?_) (fun cdv A outer s H vs Q E hr h => ?_)
  · obtain ⟨a, ns, rfl, _⟩ := h
    rfl
  · obtain ⟨a, ns, rfl, hS, hl, k⟩ := h
    refine ⟨_,
    (pss_cons
      (ps_set (i := 1) sc_law_deck.nd rfl (.inl rfl) (pe_op op_add pe_int (pe_op op_mod (pe_callB call_len_seq (by rfl) T.m_len (by decide +kernel) (pa_cons (pv 0) pa_nil)) pe_int)))
    (pss_cons
      (ps_for PassesOwn.never rfl (pi_list (pv 0)) (pg_name (i := 2) sc_law_deck.nd rfl (.inl rfl))
        (pss_one
          (ps_set (i := 1) sc_law_deck.nd rfl (.inl rfl) (pe_op op_mod (pe_op op_add (pe_op op_add (pe_op op_mul (pv 1) pe_int) (pe_op op_mod (pe_callTy call_int1 (by rfl) T.m_int (by decide +kernel) (pa_cons (pv 2) pa_nil)) pe_int)) pe_int) pe_int))))
    (pss_cons
      (ps_setLc (i := 3) (own := [("cell", 2)]) (g := gName 2) rfl sc_law_deck.nd rfl rfl (sw_true rfl rfl rfl (by decide +kernel)) (pi_list (pv 0)) (blkOk_by (N := ["script", "mixed", "cell", "great"]) (sc := defScope s_law_deck) (own := [("cell", 2)]) (by decide +kernel)) (fun _ _ _ _ _ => (pg_name (i := 2) sc_law_deck.nd rfl (.inl rfl))) (fun _ _ _ _ _ => (pts_one (pt_cmpR op_ge (pv 2) (pe_op op_pow pe_int pe_int) (nomark _)))) (fun _ _ _ _ _ => (pe_op op_sub (pe_callTy call_int1 (by rfl) T.m_int (by decide +kernel) (pa_cons (pv 2) pa_nil)) (pe_op op_pow pe_int pe_int))))
    (pss_one
      (ps_ret (pe_lst (pa_cons (pe_revL (pv 3)) (pa_cons pe_int (pa_cons (pe_op op_add (pe_op op_mod (pv 1) pe_int) pe_int) pa_nil))))))))), ?_⟩
    refine ⟨_, rfl, a, _, rfl, .inl hS, _, _, rfl, rfl, (by show (0 : Int) < 1009; decide), _, _, rfl, rfl, ?_⟩
    have m0 : 0 ≤ 1 + ((ns.map V.int).length : Int) % 1009 := by omega
    have m1 : 1 + ((ns.map V.int).length : Int) % 1009 < 2147483648 := by omega
    refine ⟨_, rfl, a, rfl, ⟨_, hS⟩, for_list (xs := ns.map V.int) (fun i σ H' => H' = H ∧ ∃ m x2, 0 ≤ m ∧ m < 2147483648 ∧ σ = [some (.ref a), some (.int m), x2, none]) ⟨rfl, _, none, m0, m1, rfl⟩ (fun i σ H' _ h => by rw [h.1]; exact hS) ?_ ?_⟩
    · rintro i v σ H1 hi ⟨rfl, m, x2, m0, m1, rfl⟩
      rw [List.getElem?_map] at hi
      obtain ⟨c, _, rfl⟩ := Option.map_eq_some_iff.mp hi
      refine ⟨_, rfl, _, _, rfl, rfl, .inl ⟨by omega, by omega⟩, _, rfl, .inl ⟨_, rfl, _, _, rfl, rfl, (by show (0 : Int) < 2147483563; decide), _, _, rfl, rfl, _, _, rfl, rfl, _, _, rfl, rfl, (by show (0 : Int) < 2147483399; decide), rfl, _, _, Int.emod_nonneg _ (by decide), Int.lt_trans (Int.emod_lt_of_pos _ (by decide)) (by decide), rfl⟩⟩
    · rintro σ H1 ⟨rfl, m, x2, m0, m1, rfl⟩
      refine ⟨_, rfl, a, rfl, ⟨_, hS⟩, fun D hD => ?_⟩
      refine lc_list (xs := ns.map V.int) (fun i H' => ∃ gs : List Int, gs.length ≤ i ∧ (∀ x ∈ gs, 0 ≤ x) ∧ H' D = some (.lst (gs.map V.int)) ∧ Same H1 H') ?_ ?_ ?_ ?_
      · exact ⟨[], Nat.le_refl _, (fun _ h => absurd h List.not_mem_nil), upd_same, same_upd hD⟩
      · rintro i H' _ ⟨gs, _, _, _, sm⟩
        exact sm.seq hS
      · rintro i v H' hi ⟨gs, gl, g0, eD, sm⟩
        have hil := (List.getElem?_eq_some_iff.mp hi).1
        rw [List.length_map] at hil
        rw [List.getElem?_map] at hi
        obtain ⟨c, _, rfl⟩ := Option.map_eq_some_iff.mp hi
        refine ⟨rfl, _, rfl, _, _, rfl, rfl, ⟨by decide, by decide, by decide⟩, _, _, rfl, rfl, _, rfl, ite2 (fun h => ?_) (fun _ => ⟨gs, by omega, g0, eD, sm⟩)⟩
        have h1 : (10 : Int) ^ (18 : Int).toNat ≤ c := of_decide_eq_true h
        refine ⟨_, rfl, .inl ⟨_, rfl, _, _, rfl, rfl, ⟨by decide, by decide, by decide⟩, _, _, rfl, rfl, gs.map V.int, eD, ?_, gs ++ [c - (10 : Int) ^ (18 : Int).toNat], ?_, ?_, ?_, fun b o e => ?_⟩⟩
        · rw [List.length_map]; exact small1000 (by omega)
        · rw [List.length_append]; exact Nat.succ_le_succ gl
        · intro x hx
          rcases List.mem_append.mp hx with h | h
          · exact g0 x h
          · have := List.mem_singleton.mp h
            omega
        · rw [upd_same, List.map_append]; rfl
        · rw [upd_ne (ne_of_none e hD)]; exact sm b o e
      · rintro H2 ⟨gs, gl, g0, eD, sm⟩
        rw [List.length_map] at gl
        refine ⟨_, rfl, D, _, rfl, .of eD, fun g hg => ⟨_, rfl, _, _, rfl, rfl, (by show (0 : Int) < 2147483398; decide), _, _, rfl, rfl, (by show 3 ≤ sizeLine; decide), fun d hd => ?_⟩⟩
        refine k d g _ ((sm.trans (same_upd hg)).trans (same_upd hd)) ⟨gs.reverse, 0, m % 2147483398 + 1, upd_same, ?_, by rw [List.length_reverse]; omega, fun x hx => g0 x (List.mem_reverse.mp hx), by decide, by omega, by omega⟩
        rw [upd_ne (ne_of_none upd_same hd), upd_same, List.map_reverse]
def sp_draw : Sp := fun vs H Q _ => ∃ (d g : Addr) (n : Int), vs = [.ref d, .int n] ∧ Deck H d g ∧ 0 < n ∧ n.natAbs.log2 < 9000 ∧ ∀ r H', 0 ≤ r → r < n → Deck H' d g → Kd d g H H' → Q (.int r) H'
theorem small_log {m : Int} (h : m.natAbs < 1024) : m.natAbs.log2 < 9000 := by
  have h1 : m.natAbs.log2 < 10 := PySem.Flt.log2_lt_of (by decide) h
  omega
theorem ok_law_draw (T : Tx K w mg) : FnOk P w K mg base CX0 1 T.f_law_draw T.d_law_draw ["deck", "many"] sp_draw := by
  refine T.F_law_draw.ok sc_law_draw (fun vs H Q E h => ?_) (fun cdv A outer s H vs Q E hr h => ?_)
  · obtain ⟨d, g, n, rfl, _⟩ := h
    rfl
  · obtain ⟨d, g, n, rfl, hD, hn, hl, k⟩ := h
    refine ⟨_,
    (pss_cons
      (ps_while PassesOwn.never (PW.pt (pw_and (pt_cmpR op_lt (pe_ix ix_list (pv 0) pe_int (fun _ _ => rfl)) pe_int (nomark _)) (pw_and1 (pt_cmpR op_gt (pe_callB call_len_seq (by rfl) T.m_len (by decide +kernel) (pa_cons (pe_ix ix_list (pv 0) pe_int (fun _ _ => rfl)) pa_nil)) pe_int (nomark _)))))
        (pss_one
          (ps_asg (pe_bm0 PySem.F.plainAttrs_list PySem.F.slot_list_pop PySem.F.type_list_pop mt_pop (pe_ix ix_list (pv 0) pe_int (fun _ _ => rfl))) (pg_sub (pv 0) pe_int set_list))))
    (pss_cons
      (ps_if (pt_cmpR op_gt (pe_ix ix_list (pv 0) pe_int (fun _ _ => rfl)) pe_int (nomark _))
        (pss_cons
          (ps_set (i := 2) sc_law_draw.nd rfl (.inl rfl) (pe_op op_mod (pe_callTy call_int1 (by rfl) T.m_int (by decide +kernel) (pa_cons (pe_ix ix_list (pv 0) pe_int (fun _ _ => rfl)) pa_nil)) (pv 1)))
        (pss_cons
          (ps_asg (pe_op op_fdivW (pe_ix ix_list (pv 0) pe_int (fun _ _ => rfl)) (pv 1)) (pg_sub (pv 0) pe_int set_list))
        (pss_one
          (ps_ret (pv 2)))))
        pss_nil)
    (pss_cons
      (ps_asg (pe_op op_mod (pe_op op_mul (pe_ix ix_list (pv 0) pe_int (fun _ _ => rfl)) pe_int) pe_int) (pg_sub (pv 0) pe_int set_list))
    (pss_one
      (ps_ret (pe_op op_mod (pe_op op_fdiv (pe_op op_add (pe_op op_mod (pe_op op_mul (pe_ix ix_list (pv 0) pe_int (fun _ _ => rfl)) (pe_ix ix_list (pv 0) pe_int (fun _ _ => rfl))) pe_int) (pe_op op_fdiv (pe_ix ix_list (pv 0) pe_int (fun _ _ => rfl)) pe_int)) pe_int) (pv 1))))))), ?_⟩
    have dg := hD.ne
    obtain ⟨gs, a, m, hd, hg, gl, g0, a0, m0, m1⟩ := hD
    refine ⟨fun t σ H' => ∃ (gs : List Int) (a : Int), gs.length = t ∧ σ = [some (.ref d), some (.int n), none] ∧ H' d = some (.lst [.ref g, .int a, .int m]) ∧ H' g = some (.lst (gs.map V.int)) ∧ gs.length ≤ 63 ∧ (∀ x ∈ gs, 0 ≤ x) ∧ 0 ≤ a ∧ Kd d g H H',
      ⟨_, gs, a, rfl, rfl, hd, hg, gl, g0, a0, Kd.refl H⟩, ?_⟩
    clear hd hg gl g0 a0 gs a
    rintro t σ H1 ⟨gs, a, tl, rfl, hd, hg, gl, g0, a0, kd⟩
    refine ⟨_, rfl, d, _, _, _, rfl, rfl, .of hd, atI_nat (j := 1) rfl, _, _, rfl, rfl, _, rfl, ite2 (fun c1 => ?_) (fun c1 => ?_)⟩
    · refine ⟨_, rfl, d, _, _, _, rfl, rfl, .of hd, atI_nat (j := 0) rfl, g, _, rfl, .inl (.of hg), _, _, rfl, rfl, _, rfl, ite2 (fun c2 => ?_) (fun c2 => ?_)⟩
      · have c3 : 0 < gs.length := by
          have : (0 : Int) < ((gs.map V.int).length : Int) := of_decide_eq_true c2
          rw [List.length_map] at this
          omega
        have hz : gs[gs.length - 1]? = some gs[gs.length - 1] := List.getElem?_eq_getElem (by omega)
        have hm := List.mem_of_getElem? hz
        generalize gs[gs.length - 1] = z at hz hm
        refine ⟨fun σ' H' => ∃ (gs : List Int) (a : Int), gs.length < t ∧ σ' = [some (.ref d), some (.int n), none] ∧ H' d = some (.lst [.ref g, .int a, .int m]) ∧ H' g = some (.lst (gs.map V.int)) ∧ gs.length ≤ 63 ∧ (∀ x ∈ gs, 0 ≤ x) ∧ 0 ≤ a ∧ Kd d g H H',
          fun σ' H' ⟨gs, a, h1, h2⟩ => ⟨_, h1, gs, a, rfl, h2⟩, ?_⟩
        refine ⟨_, rfl, d, _, _, _, rfl, rfl, .of hd, atI_nat (j := 0) rfl, .inl ⟨rfl, _, .of hg⟩, g, gs.map V.int, V.int z, rfl, rfl, hg, ?_, _, rfl, d, [.ref g, .int a, .int m], _, 1, rfl, rfl, ?_, rfl, gs.dropLast, z, ?_, rfl, ?_, ?_, ?_, ?_, g0 z hm, fun b o e n1 n2 => ?_⟩
        · rw [List.length_map, List.getElem?_map, hz]; rfl
        · rw [upd_ne dg]; exact hd
        · rw [List.length_dropLast]; omega
        · rw [upd_same]; rfl
        · rw [upd_ne dg.symm, upd_same, List.map_dropLast]
        · rw [List.length_dropLast]; omega
        · exact fun x hx => g0 x (List.dropLast_subset gs hx)
        · rw [upd_ne n1, upd_ne n2]; exact kd b o e n1 n2
      · refine ⟨_, rfl, d, _, _, _, rfl, rfl, .of hd, atI_nat (j := 1) rfl, _, _, rfl, rfl, _, rfl, iteND (by have : a < 2 := of_decide_eq_true c1; omega) ?_⟩
        have bm : -(2 ^ 64) < m ∧ m < 2 ^ 64 := ⟨by omega, by omega⟩
        have b0 : 0 ≤ m * 48271 % 2147483647 := Int.emod_nonneg _ (by decide)
        have b1 : m * 48271 % 2147483647 < 2147483647 := Int.emod_lt_of_pos _ (by decide)
        have bn : -(2 ^ 64) < m * 48271 % 2147483647 ∧ m * 48271 % 2147483647 < 2 ^ 64 := ⟨by omega, by omega⟩
        refine ⟨_, rfl, d, _, _, _, rfl, rfl, .of hd, atI_nat (j := 2) rfl, _, _, rfl, rfl, .inl bm, _, _, rfl, rfl, (by show (0 : Int) < 2147483647; decide), _, rfl, d, [.ref g, .int a, .int m], _, 2, rfl, rfl, hd, rfl, ?_⟩
        have e2 : (upd H1 d (.lst ([V.ref g, V.int a, V.int m].set 2 (V.int (m * 48271 % 2147483647))))) d = some (.lst [V.ref g, V.int a, V.int (m * 48271 % 2147483647)]) := upd_same
        refine ⟨_, rfl, d, _, _, _, rfl, rfl, .of e2, atI_nat (j := 2) rfl, _, rfl, d, _, _, _, rfl, rfl, .of e2, atI_nat (j := 2) rfl, _, _, rfl, rfl, .inl bn, _, _, rfl, rfl, (by show (0 : Int) < 2147483629; decide), _, rfl, d, _, _, _, rfl, rfl, .of e2, atI_nat (j := 2) rfl, _, _, rfl, rfl, ⟨by decide, by decide⟩, _, _, rfl, rfl, _, _, rfl, rfl, ⟨by decide, by decide⟩, _, rfl, _, _, rfl, rfl, hn, ?_⟩
        refine k _ _ (Int.emod_nonneg _ (by omega)) (Int.emod_lt_of_pos _ hn) ⟨gs, a, m * 48271 % 2147483647, e2, ?_, gl, g0, a0, b0, by omega⟩ fun b o e n1 n2 => ?_
        · rw [upd_ne dg.symm]; exact hg
        · rw [upd_ne n1]; exact kd b o e n1 n2
    · have c2 : ¬ a < 2 := fun z => c1 (decide_eq_true z)
      refine ⟨_, rfl, d, _, _, _, rfl, rfl, .of hd, atI_nat (j := 1) rfl, _, _, rfl, rfl, _, rfl, iteD (by omega) ?_⟩
      refine ⟨_, rfl, d, _, _, _, rfl, rfl, .of hd, atI_nat (j := 1) rfl, .inl ⟨_, rfl, _, rfl, _, _, rfl, rfl, hn, ?_⟩⟩
      refine ⟨_, rfl, d, _, _, _, rfl, rfl, .of hd, atI_nat (j := 1) rfl, _, rfl, _, _, rfl, rfl, ⟨hn, hl⟩, _, rfl, d, [.ref g, .int a, .int m], _, 1, rfl, rfl, hd, rfl, ?_⟩
      refine ⟨_, rfl, k _ _ (Int.emod_nonneg _ (by omega)) (Int.emod_lt_of_pos _ hn) ⟨gs, a / n, m, upd_same, ?_, gl, g0, Int.ediv_nonneg a0 (by omega), m0, m1⟩ fun b o e n1 n2 => ?_⟩
      · rw [upd_ne dg.symm]; exact hg
      · rw [upd_ne n1]; exact kd b o e n1 n2
/-! ### names -/
theorem Deck.same {H H' : Hp} {d g : Addr} (s : Same H H') (h : Deck H d g) : Deck H' d g := by
  obtain ⟨gs, a, m, h1, h2, h3⟩ := h
  exact ⟨gs, a, m, s _ _ h1, s _ _ h2, h3⟩
theorem Deck.at {H : Hp} {d g : Addr} (h : Deck H d g) : (∃ o, H d = some o) ∧ ∃ o, H g = some o := by
  obtain ⟨gs, a, m, h1, h2, h3⟩ := h
  exact ⟨⟨_, h1⟩, _, h2⟩
theorem Deck.new {H : Hp} {d g p : Addr} (h : Deck H d g) (hp : H p = none) : p ≠ d ∧ p ≠ g := by
  obtain ⟨⟨o, h1⟩, u, h2⟩ := h.at
  exact ⟨(ne_of_none h1 hp).symm, (ne_of_none h2 hp).symm⟩
theorem Kd.free {d g p : Addr} {H H' : Hp} (k : Kd d g H H') (h : H' p = none) (n1 : p ≠ d) (n2 : p ≠ g) : H p = none := by
  cases q : H p with
  | none => rfl
  | some o =>
    rw [k p o q n1 n2] at h
    cases h
def ltr : Str := "abcdefghijklmnopqrstuvwxyz"
theorem ltr_l : ltr.cps.toList = [97, 98, 99, 100, 101, 102, 103, 104, 105, 106, 107, 108, 109, 110, 111, 112, 113, 114, 115, 116, 117, 118, 119, 120, 121, 122] := by decide +kernel
theorem ltr_at : ∀ r : Nat, r < 26 → ltr.cps.toList[r]? = some (97 + r) := by
  rw [ltr_l]
  decide
theorem ltr_len : ltr.length ≤ sizeLine := by
  rw [len_l, ltr_l]
  show 26 ≤ sizeLine
  decide
def wrd : List Str := ["before", "upto", "same", "apart", "far", "next", "first", "last"]
theorem wrd_nm : ∀ z ∈ wrd, Nm z := by
  have h : ∀ z ∈ wrd, 1 ≤ z.length ∧ z.length ≤ 8 ∧ ∀ c ∈ z.cps.toList, 97 ≤ c ∧ c ≤ 122 := by decide +kernel
  exact fun z hz => ⟨(h z hz).1, (h z hz).2.1, (h z hz).2.2⟩
def one (c : Nat) : Str := ⟨#[c]⟩
theorem l_app (x y : Str) : (x ++ y).cps.toList = x.cps.toList ++ y.cps.toList := TL.tl_append x y
theorem l_cutT (z : Str) (i : Nat) : (cutS z none (some (i : Int))).cps.toList = z.cps.toList.take i := by
  show (z.cps.toList.drop 0).take (HT.sIx z.length z.length (some (i : Int)) - 0) = _
  rw [show HT.sIx z.length z.length (some (i : Int)) = min i z.length from HT.sIx_nat _ _ i, List.drop_zero, Nat.sub_zero, len_l]
  by_cases h : i ≤ z.cps.toList.length
  · rw [Nat.min_eq_left h]
  · rw [Nat.min_eq_right (by omega), List.take_of_length_le (Nat.le_refl _), List.take_of_length_le (by omega)]
theorem l_cutD (z : Str) (i : Nat) : (cutS z (some (i : Int)) none).cps.toList = z.cps.toList.drop i := by
  show (z.cps.toList.drop (HT.sIx z.length 0 (some (i : Int)))).take (z.length - HT.sIx z.length 0 (some (i : Int))) = _
  rw [show HT.sIx z.length 0 (some (i : Int)) = min i z.length from HT.sIx_nat _ _ i, len_l]
  by_cases h : i ≤ z.cps.toList.length
  · rw [Nat.min_eq_left h]
    exact List.take_of_length_le (by rw [List.length_drop]; exact Nat.le_refl _)
  · rw [Nat.min_eq_right (by omega), Nat.sub_self, List.take_zero, List.drop_eq_nil_of_le (by omega)]
theorem joinL_one : ∀ cs : List Nat, TL.joinL [] (cs.map fun c => [c]) = cs
  | [] => rfl
  | [_] => rfl
  | a :: b :: r => by
    have ih := joinL_one (b :: r)
    show [a] ++ ([] ++ TL.joinL [] ((b :: r).map fun c => [c])) = a :: b :: r
    rw [ih]
    rfl
theorem l_join (cs : List Nat) : (Txt.join ("" : Str) (cs.map one)).cps.toList = cs := by
  rw [TL.join_eq]
  show TL.tl _ = _
  rw [TL.tl_join, List.map_map]
  exact joinL_one cs
theorem join_room (cs : List Nat) (h : cs.length ≤ 1000) : ((cs.map one).map (·.length)).sum + (cs.map one).length * ("" : Str).length ≤ 16777216 := by
  have e : ((cs.map one).map (·.length)).sum = cs.length := by
    clear h
    induction cs with
    | nil => rfl
    | cons a r ih =>
      rw [List.map_cons, List.map_cons, List.sum_cons, ih, List.length_cons]
      show 1 + r.length = _
      omega
  rw [e, show ("" : Str).length = 0 from by decide +kernel]
  omega
theorem nodup_le : ∀ {l m : List Str}, l.Nodup → (∀ x ∈ l, x ∈ m) → l.length ≤ m.length
  | [], _, _, _ => Nat.zero_le _
  | a :: r, m, nd, h => by
    have ha := h a List.mem_cons_self
    have nd2 := List.nodup_cons.mp nd
    have ih := nodup_le (l := r) (m := m.erase a) nd2.2 fun x hx => (List.mem_erase_of_ne (fun e : x = a => nd2.1 (e ▸ hx))).mpr (h x (List.mem_cons_of_mem _ hx))
    rw [List.length_erase_of_mem ha] at ih
    have := List.length_pos_of_mem ha
    rw [List.length_cons]
    omega
theorem ltr_free {ts : List Str} (h : ts.length < 26) : ∃ c r, ltr.cps.toList.filter (fun c => decide (one c ∉ ts)) = c :: r := by
  cases e : ltr.cps.toList.filter (fun c => decide (one c ∉ ts)) with
  | cons c r => exact ⟨c, r, rfl⟩
  | nil =>
    exfalso
    have h1 : ∀ x ∈ ltr.cps.toList.map one, x ∈ ts := fun x hx => by
      obtain ⟨c, hc, rfl⟩ := List.mem_map.mp hx
      have := List.filter_eq_nil_iff.mp e c hc
      simpa using this
    have h2 : (ltr.cps.toList.map one).Nodup := by
      rw [ltr_l]
      decide +kernel
    have := nodup_le h2 h1
    rw [List.length_map, ltr_l] at this
    have h3 : 26 ≤ ts.length := this
    omega
theorem nm_one {c : Nat} (h1 : 97 ≤ c) (h2 : c ≤ 122) : Nm (one c) := ⟨by show 1 ≤ 1; decide, by show 1 ≤ 8; decide, fun x hx => by
  have : x = c := by simpa [one] using hx
  omega⟩
/-- [letters[draw(26)] for .. in range(n)]: the deck in slot 0, the letters in slot 2, the comprehension's own name in slot j -/
theorem lc_letters {σ : L2.St} {H : Hp} {j : Nat} {d g D : Addr} {n : Nat} {Qd : Hp → Prop} (hn : n ≤ 1000) (s0 : σ[0]? = some (some (.ref d))) (s2 : σ[2]? = some (some (.str ltr))) (j0 : j ≠ 0) (j2 : j ≠ 2) (hD : Deck H d g) (nD : H D = none)
    (q : ∀ (H' : Hp) (cs : List Nat), Deck H' d g → Kd d g H H' → H' D = some (.lst ((cs.map one).map V.str)) → cs.length = n → (∀ c ∈ cs, 97 ≤ c ∧ c ≤ 122) → Qd H') :
    ∃ W : Nat → Nat → Hp → Prop, (∃ m, W 0 m (upd H D (.lst []))) ∧ ∀ i m H, W i m H →
      ((Itr 0 n).stop i H ∧ Qd H) ∨ ((Itr 0 n).go i H ∧ ∃ Nx : Hp → Prop, (∀ H', Nx H' → ∃ m', m' < m ∧ W (i + 1) m' H') ∧ ∀ x H', (Itr 0 n).yld i H x H' → gName j x (wipe σ [j]) H' fun σ2 H2 => wipe σ2 [j] = wipe σ [j] ∧ tYes σ2 H2 fun b H3 =>
        if b = true then (tOp rIxS (tVar 2) (tCall sp_draw [] E0 (tCons (tVar 0) (tCons (tC (.int 26)) tNil)))) σ2 H3 fun y H4 => ∃ acc, H4 D = some (.lst acc) ∧ acc.length < sizeLine ∧ Nx (upd H4 D (.lst (acc ++ [y]))) else Nx H3) := by
  have nD2 := hD.new nD
  refine lc_range (lo := 0) (n := n) (fun i H' => ∃ cs : List Nat, Deck H' d g ∧ Kd d g H H' ∧ H' D = some (.lst ((cs.map one).map V.str)) ∧ cs.length = i ∧ ∀ c ∈ cs, 97 ≤ c ∧ c ≤ 122) ?_ ?_ ?_
  · exact ⟨[], hD.same (same_upd nD), Same.kd (same_upd nD), upd_same, rfl, fun _ h => absurd h List.not_mem_nil⟩
  · rintro i H1 hi ⟨cs, hD1, k1, eD, hl, low⟩
    have w : wipe ((wipe σ [j]).set j (some (.int (0 + (i : Int))))) [j] = wipe σ [j] := by
      show (((σ.set j none).set j (some (.int (0 + (i : Int))))).set j none) = σ.set j none
      rw [List.set_set, List.set_set]
    have t0 : ((wipe σ [j]).set j (some (.int (0 + (i : Int)))))[0]? = some (some (.ref d)) := by
      show ((σ.set j none).set j _)[0]? = _
      rw [List.getElem?_set_ne j0, List.getElem?_set_ne j0]
      exact s0
    have t2 : ((wipe σ [j]).set j (some (.int (0 + (i : Int)))))[2]? = some (some (.str ltr)) := by
      show ((σ.set j none).set j _)[2]? = _
      rw [List.getElem?_set_ne j2, List.getElem?_set_ne j2]
      exact s2
    refine ⟨w, _, t2, _, t0, d, g, 26, rfl, hD1, by decide, by decide +kernel, fun r H2 r0 r1 hD2 k2 => ?_⟩
    obtain ⟨m, rfl⟩ := Int.eq_ofNat_of_zero_le r0
    refine ⟨ltr, m, 97 + m, rfl, rfl, ltr_len, atI_nat (ltr_at m (by omega)), (cs.map one).map V.str, k2 _ _ eD nD2.1 nD2.2, ?_, cs ++ [97 + m], ?_, ?_, ?_, ?_, ?_⟩
    · rw [List.length_map, List.length_map]; exact small1000 (by omega)
    · obtain ⟨gs, a, mm, h1, h2, h3⟩ := hD2
      exact ⟨gs, a, mm, by rw [upd_ne nD2.1.symm]; exact h1, by rw [upd_ne nD2.2.symm]; exact h2, h3⟩
    · intro b o e n1 n2
      rw [upd_ne (ne_of_none e nD)]
      exact k2 b o (k1 b o e n1 n2) n1 n2
    · rw [upd_same, List.map_append, List.map_append]; rfl
    · rw [List.length_append, hl]; rfl
    · intro c hc
      rcases List.mem_append.mp hc with h | h
      · exact low c h
      · have := List.mem_singleton.mp h
        omega
  · rintro H1 ⟨cs, hD1, k1, eD, hl, low⟩
    exact q H1 cs hD1 k1 eD hl low
/-- what stands while names are found -/
structure NSt (H0 H' : Hp) (d g F W : Addr) (ts : List Str) : Prop where
  dk : Deck H' d g
  kd : Kd d g H0 H'
  eF : H' F = some (.lst (ts.map V.str))
  eW : H' W = some (.lst (wrd.map V.str))
  fF : H0 F = none
  nF : F ≠ d ∧ F ≠ g
  nW : W ≠ d ∧ W ≠ g
theorem NSt.draw {H0 H1 H2 : Hp} {d g F W : Addr} {ts : List Str} (n : NSt H0 H1 d g F W ts) (h : Deck H2 d g) (k : Kd d g H1 H2) : NSt H0 H2 d g F W ts :=
  ⟨h, n.kd.trans k, k _ _ n.eF n.nF.1 n.nF.2, k _ _ n.eW n.nW.1 n.nW.2, n.fF, n.nF, n.nW⟩
theorem nm_mid {st : Str} {a r : Nat} (low : Low st) (hl : st.length ≤ 7) (ha : a ≤ st.length) (hr : r < 26) : Nm ((cutS st none (some (a : Int)) ++ one (97 + r)) ++ cutS st (some (a : Int)) none) := by
  have e : ((cutS st none (some (a : Int)) ++ one (97 + r)) ++ cutS st (some (a : Int)) none).cps.toList = (st.cps.toList.take a ++ [97 + r]) ++ st.cps.toList.drop a := by
    rw [l_app, l_app, l_cutT, l_cutD]
    rfl
  rw [len_l] at hl ha
  refine ⟨?_, ?_, fun c hc => ?_⟩
  · rw [len_l, e, List.length_append, List.length_append, List.length_take, List.length_drop, List.length_singleton]; omega
  · rw [len_l, e, List.length_append, List.length_append, List.length_take, List.length_drop, List.length_singleton]; omega
  · rw [e] at hc
    rcases List.mem_append.mp hc with h | h
    · rcases List.mem_append.mp h with h | h
      · exact low c (List.mem_of_mem_take h)
      · have := List.mem_singleton.mp h
        omega
    · exact low c (List.mem_of_mem_drop h)
theorem nm_q {st : Str} {a : Nat} (low : Low st) (hl : st.length ≤ 7) (ha : a ≤ st.length) : Nm (cutS (st ++ ("q" : Str)) none (some (1 + (a : Int)))) := by
  have e : (cutS (st ++ ("q" : Str)) none (some (1 + (a : Int)))).cps.toList = (st.cps.toList ++ [113]).take (1 + a) := by
    have h := l_cutT (st ++ ("q" : Str)) (1 + a)
    rw [show ((1 + a : Nat) : Int) = 1 + (a : Int) by omega] at h
    rw [h, l_app, show ("q" : Str).cps.toList = [113] by decide +kernel]
  rw [len_l] at hl ha
  refine ⟨?_, ?_, fun c hc => ?_⟩
  · rw [len_l, e, List.length_take, List.length_append, List.length_singleton]; omega
  · rw [len_l, e, List.length_take, List.length_append, List.length_singleton]; omega
  · rw [e] at hc
    rcases List.mem_append.mp (List.mem_of_mem_take hc) with h | h
    · exact low c h
    · have := List.mem_singleton.mp h
      omega
theorem str_line {n : Nat} (h : n ≤ 1000) : n ≤ sizeLine := Nat.le_of_lt (small1000 h)
def sp_names : Sp := fun vs H Q _ => ∃ (d g : Addr) (n : Nat), vs = [.ref d, .int n] ∧ Deck H d g ∧ 0 < n ∧ n ≤ 12 ∧
  ∀ (p : Addr) (ts : List Str) (H' : Hp), Deck H' d g → Kd d g H H' → H p = none → H' p = some (.lst (ts.map V.str)) → p ≠ d → p ≠ g → ts.length = n → (∀ z ∈ ts, Nm z) → ts.Nodup → Q (.ref p) H'
theorem ok_law_names (T : Tx K w mg) : FnOk P w K mg base CX0 2 T.f_law_names T.d_law_names ["deck", "many"] sp_names := by
  refine T.F_law_names.ok sc_law_names (fun vs H Q E h => ?_) (fun cdv A outer s H vs Q E hr h => ?_)
  · obtain ⟨d, g, n, rfl, _⟩ := h
    rfl
  · obtain ⟨d, g, n, rfl, hD, hn, hl, k⟩ := h
    refine ⟨_,
    (pss_cons
      (ps_set (i := 2) sc_law_names.nd rfl (.inr rfl) pe_str)
    (pss_cons
      (ps_set (i := 3) sc_law_names.nd rfl (.inl rfl) (pe_lst (pa_cons pe_str (pa_cons pe_str (pa_cons pe_str (pa_cons pe_str (pa_cons pe_str (pa_cons pe_str (pa_cons pe_str (pa_cons pe_str pa_nil))))))))))
    (pss_cons
      (ps_set (i := 4) sc_law_names.nd rfl (.inl rfl) (pe_call (ok_law_draw T) hr (by rfl) T.g_law_draw T.F_law_draw.kp T.b_law_draw .nil pass0 (pa_cons (pv 0) (pa_cons pe_int pa_nil))))
    (pss_cons
      (ps_set (i := 5) sc_law_names.nd rfl (.inl rfl) (pe_join pe_str (pe_lc (own := [("k", 7)]) (g := gName 7) rfl sc_law_names.nd (pi_range1 (by rfl) T.m_range (pa_cons (pe_call (ok_law_draw T) hr (by rfl) T.g_law_draw T.F_law_draw.kp T.b_law_draw .nil pass0 (pa_cons (pv 0) (pa_cons pe_int pa_nil))) pa_nil)) (blkOk_by (N := ["deck", "many", "letters", "words", "way", "stem", "found", "k", "at", "name", "m", "one"]) (sc := defScope s_law_names) (own := [("k", 7)]) (by decide +kernel)) (fun _ _ _ _ _ => (pg_name (i := 7) sc_law_names.nd rfl (.inl rfl))) (fun _ _ _ _ _ => pts_nil) (fun _ _ _ _ _ => (pe_ix ix_str (pv 2) (pe_call (ok_law_draw T) hr (by rfl) T.g_law_draw T.F_law_draw.kp T.b_law_draw .nil pass0 (pa_cons (pv 0) (pa_cons pe_int pa_nil))) (fun _ _ => rfl))))))
    (pss_cons
      (ps_set (i := 6) sc_law_names.nd rfl (.inr rfl) (pe_lst pa_nil))
    (pss_cons
      (ps_for PassesOwn.never rfl (pi_range1 (by rfl) T.m_range (pa_cons (pv 1) pa_nil)) (pg_name (i := 7) sc_law_names.nd rfl (.inl rfl))
        (pss_cons
          (ps_set (i := 8) sc_law_names.nd rfl (.inl rfl) (pe_call (ok_law_draw T) hr (by rfl) T.g_law_draw T.F_law_draw.kp T.b_law_draw .nil pass0 (pa_cons (pv 0) (pa_cons (pe_op op_add (pe_callB call_len_str (by rfl) T.m_len (by decide +kernel) (pa_cons (pv 5) pa_nil)) pe_int) pa_nil))))
        (pss_cons
          (ps_set (i := 9) sc_law_names.nd rfl (.inl rfl) (pe_op op_add_str (pe_op op_add_str (pe_slice sl_str (pv 5) po_none (po_some (pv 8))) (pe_ix ix_str (pv 2) (pe_call (ok_law_draw T) hr (by rfl) T.g_law_draw T.F_law_draw.kp T.b_law_draw .nil pass0 (pa_cons (pv 0) (pa_cons pe_int pa_nil))) (fun _ _ => rfl))) (pe_slice sl_str (pv 5) (po_some (pv 8)) po_none)))
        (C8.pss_cut
          (ps_if (pt_cmpR op_eq (pv 4) pe_int (nomark _))
            (pss_one
              (ps_set (i := 9) sc_law_names.nd rfl (.inl rfl) (pe_slice sl_str (pe_op op_add_str (pv 5) pe_str) po_none (po_some (pe_op op_add pe_int (pv 8))))))
            pss_nil)
        (C8.pss_cut
          (ps_if (pt_cmpR op_eq (pv 4) pe_int (nomark _))
            (pss_one
              (ps_set (i := 9) sc_law_names.nd rfl (.inl rfl) (pe_ix ix_list (pv 3) (pe_call (ok_law_draw T) hr (by rfl) T.g_law_draw T.F_law_draw.kp T.b_law_draw .nil pass0 (pa_cons (pv 0) (pa_cons pe_int pa_nil))) (fun _ _ => rfl))))
            pss_nil)
        (C8.pss_cut
          (ps_if (pt_cmpR op_eq (pv 4) pe_int (nomark _))
            (pss_one
              (ps_set (i := 9) sc_law_names.nd rfl (.inl rfl) (pe_join pe_str (pe_lc (own := [("m", 10)]) (g := gName 10) rfl sc_law_names.nd (pi_range1 (by rfl) T.m_range (pa_cons (pe_op op_add pe_int (pe_call (ok_law_draw T) hr (by rfl) T.g_law_draw T.F_law_draw.kp T.b_law_draw .nil pass0 (pa_cons (pv 0) (pa_cons pe_int pa_nil)))) pa_nil)) (blkOk_by (N := ["deck", "many", "letters", "words", "way", "stem", "found", "k", "at", "name", "m", "one"]) (sc := defScope s_law_names) (own := [("m", 10)]) (by decide +kernel)) (fun _ _ _ _ _ => (pg_name (i := 10) sc_law_names.nd rfl (.inl rfl))) (fun _ _ _ _ _ => pts_nil) (fun _ _ _ _ _ => (pe_ix ix_str (pv 2) (pe_call (ok_law_draw T) hr (by rfl) T.g_law_draw T.F_law_draw.kp T.b_law_draw .nil pass0 (pa_cons (pv 0) (pa_cons pe_int pa_nil))) (fun _ _ => rfl)))))))
            pss_nil)
        (C8.pss_cut
          (ps_if (pt_cmpR op_in_seq (pv 9) (pv 6) (by rfl))
            (pss_one
              (ps_set (i := 9) sc_law_names.nd rfl (.inl rfl) (pe_ix ix_list (pe_lc (own := [("one", 11)]) (g := gName 11) rfl sc_law_names.nd (pi_str (pv 2)) (blkOk_by (N := ["deck", "many", "letters", "words", "way", "stem", "found", "k", "at", "name", "m", "one"]) (sc := defScope s_law_names) (own := [("one", 11)]) (by decide +kernel)) (fun _ _ _ _ _ => (pg_name (i := 11) sc_law_names.nd rfl (.inl rfl))) (fun _ _ _ _ _ => (pts_one (pt_cmpR (r := rIn K true) op_notIn_seq (pv 11) (pv 6) (by rfl)))) (fun _ _ _ _ _ => (pv 11))) pe_int (fun _ _ => rfl))))
            pss_nil)
        (pss_one
          (ps_expr (pe_bm PySem.F.plainAttrs_list PySem.F.slot_list_append PySem.F.type_list_append mt_append (pv 6) (pa_cons (pv 9) pa_nil)))))))))))
    (pss_one
      (ps_ret (pv 6))))))))), ?_⟩
    refine ⟨(by show 8 ≤ sizeLine; decide), fun W hW => ?_⟩
    have nW := hD.new hW
    refine ⟨_, rfl, d, g, 4, rfl, hD.same (same_upd hW), by decide, by decide +kernel, fun way H2 w0 w1 hD2 k2 => ?_⟩
    have eW : H2 W = some (.lst (wrd.map V.str)) := k2 _ _ upd_same nW.1 nW.2
    -- stem
    refine ⟨⟨_, rfl⟩, _, rfl, d, g, 8, rfl, hD2, by decide, by decide +kernel, fun m H3 m0 m1 hD3 k3 => ⟨_, rfl, by omega, by omega, fun J hJ => ?_⟩⟩
    refine lc_letters (n := m.toNat) (by omega) rfl rfl (by decide) (by decide) hD3 hJ fun H4 cs hD4 k4 eJ cl low => ?_
    refine ⟨_, J, cs.map one, rfl, rfl, .inl (.of eJ), join_room cs (by omega), ?_⟩
    have ls : Low (Txt.join ("" : Str) (cs.map one)) := fun c hc => by rw [l_join] at hc; exact low c hc
    have ll : (Txt.join ("" : Str) (cs.map one)).length ≤ 7 := by rw [len_l, l_join]; omega
    generalize hst : Txt.join ("" : Str) (cs.map one) = st at ls ll
    -- found = []
    refine ⟨Nat.zero_le _, fun F hF => ?_⟩
    have k0 : Kd d g H H4 := (Same.kd (same_upd hW)).trans (k2.trans (k3.trans k4))
    have eW4 := k4 _ _ (k3 _ _ eW nW.1 nW.2) nW.1 nW.2
    have nF := hD4.new hF
    have WF : W ≠ F := ne_of_none eW4 hF
    have fF : H F = none := k0.free hF nF.1 nF.2
    have n0 : NSt H (upd H4 F (.lst [])) d g F W [] := ⟨hD4.same (same_upd hF), k0.trans (Same.kd (same_upd hF)), upd_same, by rw [upd_ne WF]; exact eW4, fF, nF, nW⟩
    generalize upd H4 F (.lst []) = H5 at n0
    clear eW eW4 k0 k2 k3 k4 hD2 hD3 hD4 hF eJ
    refine ⟨_, rfl, _, rfl, by omega, by omega, for_range (n := _) (fun i σ H' => ∃ (ts : List Str) (x7 x8 x9 : Option V), σ = [some (.ref d), some (.int (n : Int)), some (.str ltr), some (.ref W), some (.int way), some (.str st), some (.ref F), x7, x8, x9, none, none] ∧
      NSt H H' d g F W ts ∧ ts.length = i ∧ (∀ z ∈ ts, Nm z) ∧ ts.Nodup) ⟨[], none, none, none, rfl, n0, rfl, (fun _ h => absurd h List.not_mem_nil), List.nodup_nil⟩ ?_ ?_⟩
    · rintro i σ H6 hi ⟨ts, x7, x8, x9, rfl, n6, tl, tn, td⟩
      have hi12 : i < 12 := by
        have : i < ((n : Int)).toNat := hi
        omega
      -- at, name
      refine ⟨_, rfl, _, rfl, _, rfl, str_line (by omega), _, _, rfl, rfl, d, g, _, rfl, n6.dk, ?_, ?_, fun a H7 a0 a1 hD7 k7 => ?_⟩
      · show (0 : Int) < (st.length : Int) + 1
        omega
      · exact small_log (by show ((st.length : Int) + 1).natAbs < 1024; omega)
      have a2 : a < (st.length : Int) + 1 := a1
      obtain ⟨a, rfl⟩ := Int.eq_ofNat_of_zero_le a0
      have n7 := n6.draw hD7 k7
      refine ⟨_, rfl, _, rfl, _, rfl, st, rfl, str_line (by omega), _, rfl, _, rfl, d, g, 26, rfl, n7.dk, by decide, by decide +kernel, fun r H8 r0 r1 hD8 k8 => ?_⟩
      obtain ⟨r, rfl⟩ := Int.eq_ofNat_of_zero_le r0
      have n8 := n7.draw hD8 k8
      have nz := nm_mid (st := st) (a := a) (r := r) ls ll (by omega) (by omega)
      have c1 := cutS_length st none (some (a : Int))
      have c2 := cutS_length st (some (a : Int)) none
      refine ⟨ltr, r, 97 + r, rfl, rfl, ltr_len, atI_nat (ltr_at r (by omega)), _, _, rfl, rfl, str_line (by show _ + 1 ≤ 1000; omega), _, rfl, _, rfl, _, rfl, st, rfl, str_line (by omega), _, _, rfl, rfl, str_line ?_, ?_⟩
      · have h1 := nz.few
        rw [len_l, l_app, List.length_append, ← len_l, ← len_l] at h1
        exact Nat.le_trans h1 (by decide)
      refine ⟨fun σ' H' => ∃ z, σ' = [some (.ref d), some (.int (n : Int)), some (.str ltr), some (.ref W), some (.int way), some (.str st), some (.ref F), some (.int (0 + (i : Int))), some (.int (a : Int)), some (.str z), none, none] ∧ NSt H H' d g F W ts ∧ Nm z, ?_, ?_⟩
      · refine ⟨_, rfl, rfl, _, rfl, ite2 (fun c => ?_) (fun c => ⟨(cutS st none (some (a : Int)) ++ one (97 + r)) ++ cutS st (some (a : Int)) none, rfl, n8, nz⟩)⟩
        refine ⟨_, rfl, _, _, rfl, rfl, str_line (by show _ + 1 ≤ 1000; omega), _, rfl, _, _, rfl, rfl, _, rfl, _, rfl, str_line ?_, _, rfl, n8, nm_q ls ll (by omega)⟩
        rw [len_l, l_app, List.length_append, ← len_l]
        show st.length + 1 ≤ 1000
        omega
      clear nz n8 n7 n6 hD7 hD8 k7 k8 c1 c2
      rintro σ H9 ⟨z, rfl, n9, nz⟩
      refine ⟨fun σ' H' => ∃ z, σ' = [some (.ref d), some (.int (n : Int)), some (.str ltr), some (.ref W), some (.int way), some (.str st), some (.ref F), some (.int (0 + (i : Int))), some (.int (a : Int)), some (.str z), none, none] ∧ NSt H H' d g F W ts ∧ Nm z, ?_, ?_⟩
      · refine ⟨_, rfl, rfl, _, rfl, ite2 (fun c => ?_) (fun c => ⟨z, rfl, n9, nz⟩)⟩
        refine ⟨_, rfl, _, rfl, d, g, 8, rfl, n9.dk, by decide, by decide +kernel, fun r H10 r0 r1 hD10 k10 => ?_⟩
        obtain ⟨r, rfl⟩ := Int.eq_ofNat_of_zero_le r0
        have n10 := n9.draw hD10 k10
        have hr8 : r < wrd.length := by show r < 8; omega
        exact ⟨W, _, _, V.str wrd[r], rfl, rfl, .of n10.eW, atI_nat (by rw [List.getElem?_map, List.getElem?_eq_getElem hr8]; rfl), _, rfl, n10, wrd_nm _ (List.getElem_mem hr8)⟩
      clear nz n9
      clear z H9
      rintro σ H9 ⟨z, rfl, n9, nz⟩
      refine ⟨fun σ' H' => ∃ z, σ' = [some (.ref d), some (.int (n : Int)), some (.str ltr), some (.ref W), some (.int way), some (.str st), some (.ref F), some (.int (0 + (i : Int))), some (.int (a : Int)), some (.str z), none, none] ∧ NSt H H' d g F W ts ∧ Nm z, ?_, ?_⟩
      · refine ⟨_, rfl, rfl, _, rfl, ite2 (fun c => ?_) (fun c => ⟨z, rfl, n9, nz⟩)⟩
        refine ⟨⟨_, rfl⟩, _, rfl, d, g, 8, rfl, n9.dk, by decide, by decide +kernel, fun m2 H10 m20 m21 hD10 k10 => ⟨_, _, rfl, rfl, _, rfl, by omega, by omega, fun J2 hJ2 => ?_⟩⟩
        have n10 := n9.draw hD10 k10
        refine lc_letters (n := (1 + m2).toNat) (by omega) rfl rfl (by decide) (by decide) n10.dk hJ2 fun H11 cs2 hD11 k11 eJ2 cl2 low2 => ?_
        refine ⟨_, J2, cs2.map one, rfl, rfl, .inl (.of eJ2), join_room cs2 (by omega), _, rfl, n10.draw hD11 k11, ?_, ?_, ?_⟩
        · rw [len_l, l_join]; omega
        · rw [len_l, l_join]; omega
        · intro c hc
          rw [l_join] at hc
          exact low2 c hc
      clear nz n9
      clear z H9
      rintro σ H9 ⟨z, rfl, n9, nz⟩
      refine ⟨fun σ' H' => ∃ z, σ' = [some (.ref d), some (.int (n : Int)), some (.str ltr), some (.ref W), some (.int way), some (.str st), some (.ref F), some (.int (0 + (i : Int))), some (.int (a : Int)), some (.str z), none, none] ∧ NSt H H' d g F W ts ∧ Nm z ∧ z ∉ ts, ?_, ?_⟩
      · refine ⟨_, rfl, _, rfl, F, _, rfl, .inl (.of n9.eF), rfl, flat_strs _, _, rfl, ite2 (fun c => ?_) (fun c => ?_)⟩
        · refine ⟨_, rfl, ltr, rfl, fun D hDn => ?_⟩
          refine lc_str (fun i H' => H' D = some (.lst ((((ltr.cps.toList.take i).filter (fun c => decide (one c ∉ ts))).map one).map V.str)) ∧ Same H9 H') ⟨upd_same, same_upd hDn⟩ ?_ ?_
          · rintro i2 c2 H10 hc2 ⟨eD, sm⟩
            have hc3 : ltr.cps.toList[i2]? = some c2 := by simpa using hc2
            have i26 : i2 < 26 := by
              have := (List.getElem?_eq_some_iff.mp hc3).1
              rw [ltr_l] at this
              exact this
            have et : ltr.cps.toList.take (i2 + 1) = ltr.cps.toList.take i2 ++ [c2] := by rw [List.take_add_one, hc3]; rfl
            refine ⟨rfl, _, rfl, _, rfl, F, _, rfl, .inl (.of (sm _ _ n9.eF)), rfl, flat_strs _, _, rfl, ?_⟩
            have ei : inV (V.str ⟨#[c2]⟩) (ts.map V.str) = decide (one c2 ∈ ts) := inV_str (one c2) ts
            refine ite2 (fun c => ?_) (fun c => ?_)
            · have h1 : (!inV (V.str ⟨#[c2]⟩) (ts.map V.str)) = true := c
              rw [ei] at h1
              have h2 : one c2 ∉ ts := by simpa using h1
              refine ⟨_, rfl, _, eD, ?_, ?_, fun b o e => ?_⟩
              · rw [List.length_map, List.length_map]
                refine small1000 (Nat.le_trans (List.length_filter_le _ _) ?_)
                rw [List.length_take]
                omega
              · rw [upd_same, et, List.filter_append, List.map_append, List.map_append]
                have : List.filter (fun c => decide (one c ∉ ts)) [c2] = [c2] := by rw [List.filter_cons_of_pos (by simpa using h2)]; rfl
                rw [this]
                rfl
              · rw [upd_ne (ne_of_none e hDn)]
                exact sm b o e
            · have h1 : ¬ (!inV (V.str ⟨#[c2]⟩) (ts.map V.str)) = true := c
              rw [ei] at h1
              have h2 : one c2 ∈ ts := by simpa using h1
              refine ⟨?_, sm⟩
              rw [eD, et, List.filter_append]
              have : List.filter (fun c => decide (one c ∉ ts)) [c2] = [] := by rw [List.filter_cons_of_neg (by simpa using h2)]; rfl
              rw [this, List.append_nil]
          · rintro H10 ⟨eD, sm⟩
            obtain ⟨c0, r0, e0⟩ := ltr_free (ts := ts) (by omega)
            have e26 : ltr.cps.size = ltr.cps.toList.length := by simp
            rw [e26, List.take_length, e0] at eD
            have hm : c0 ∈ ltr.cps.toList.filter (fun c => decide (one c ∉ ts)) := by rw [e0]; exact List.mem_cons_self
            obtain ⟨hm1, hm2⟩ := List.mem_filter.mp hm
            have hb : 97 ≤ c0 ∧ c0 ≤ 122 := by
              rw [ltr_l] at hm1
              simp only [List.mem_cons, List.not_mem_nil, or_false] at hm1
              omega
            exact ⟨D, _, _, V.str (one c0), rfl, rfl, .of eD, atI_nat (j := 0) rfl, one c0, rfl, n9.draw (n9.dk.same sm) (Same.kd sm), nm_one hb.1 hb.2, by simpa using hm2⟩
        · have h1 : ¬ inV (V.str z) (ts.map V.str) = true := c
          rw [inV_str] at h1
          exact ⟨z, rfl, n9, nz, by simpa using h1⟩
      clear nz n9
      clear z H9
      rintro σ H9 ⟨z, rfl, n9, nz, nin⟩
      refine ⟨_, rfl, .inl ⟨rfl, _, .of n9.eF⟩, _, rfl, F, _, _, rfl, rfl, n9.eF, ?_, ts ++ [z], _, _, _, rfl, ⟨?_, ?_, ?_, ?_, n9.fF, n9.nF, n9.nW⟩, ?_, ?_, ?_⟩
      · rw [List.length_map]; exact small1000 (by omega)
      · obtain ⟨gs, b, m, h1, h2, h3⟩ := n9.dk
        exact ⟨gs, b, m, by rw [upd_ne n9.nF.1.symm]; exact h1, by rw [upd_ne n9.nF.2.symm]; exact h2, h3⟩
      · intro b o e h1 h2
        rw [upd_ne (ne_of_none e n9.fF)]
        exact n9.kd b o e h1 h2
      · rw [upd_same, List.map_append]; rfl
      · rw [upd_ne WF]; exact n9.eW
      · rw [List.length_append, tl]; rfl
      · intro y hy
        rcases List.mem_append.mp hy with h | h
        · exact tn y h
        · rw [List.mem_singleton.mp h]; exact nz
      · exact List.nodup_append.mpr ⟨td, List.nodup_cons.mpr ⟨List.not_mem_nil, List.nodup_nil⟩, fun x hx y hy e => nin (by rw [← List.mem_singleton.mp hy, ← e]; exact hx)⟩
    · rintro σ H6 ⟨ts, x7, x8, x9, rfl, n6, tl, tn, td⟩
      exact ⟨_, rfl, k F ts H6 n6.dk n6.kd n6.fF n6.eF n6.nF.1 n6.nF.2 (by rw [tl]; omega) tn td⟩
/-! ### rules, data, orders -/
/-- tuples stand -/
def Tk (H H' : Hp) : Prop := ∀ b xs, H b = some (.tup xs) → H' b = some (.tup xs)
theorem Same.tk {H H' : Hp} (s : Same H H') : Tk H H' := fun b _ h => s b _ h
theorem Kd.tk {d g : Addr} {H H' : Hp} (k : Kd d g H H') (hD : Deck H d g) : Tk H H' := fun b xs h => by
  obtain ⟨gs, a, m, h1, h2, _⟩ := hD
  exact k b _ h (ne_of h h1 (by intro z; cases z)) (ne_of h h2 (by intro z; cases z))
theorem Tk.trans {H H1 H2 : Hp} (a : Tk H H1) (b : Tk H1 H2) : Tk H H2 := fun x xs h => b x xs (a x xs h)
theorem tk_mut {H : Hp} {p : Addr} {xs : List V} {o : HO} (h : H p = some (.lst xs)) : Tk H (upd H p o) := fun b ys e => by
  rw [upd_ne (ne_of e h (by intro z; cases z))]
  exact e
inductive Rls (ts : List Str) (H : Hp) : List Addr → List (List Str) → Prop
  | nil : Rls ts H [] []
  | cons {a : Addr} {l : List Str} {as : List Addr} {ls : List (List Str)} : H a = some (.tup (l.map V.str)) → RuleOk ts l → Rls ts H as ls → Rls ts H (a :: as) (l :: ls)
theorem Rls.keep {ts : List Str} {H H' : Hp} (k : Tk H H') : ∀ {as : List Addr} {ls : List (List Str)}, Rls ts H as ls → Rls ts H' as ls
  | _, _, .nil => .nil
  | _, _, .cons h n r => .cons (k _ _ h) n (r.keep k)
theorem Rls.snoc {ts : List Str} {H : Hp} {a : Addr} {l : List Str} (h : H a = some (.tup (l.map V.str))) (n : RuleOk ts l) : ∀ {as : List Addr} {ls : List (List Str)}, Rls ts H as ls → Rls ts H (as ++ [a]) (ls ++ [l])
  | _, _, .nil => .cons h n .nil
  | _, _, .cons h1 n1 r => .cons h1 n1 (r.snoc h n)
theorem Rls.len {ts : List Str} {H : Hp} : ∀ {as : List Addr} {ls : List (List Str)}, Rls ts H as ls → as.length = ls.length
  | _, _, .nil => rfl
  | _, _, .cons _ _ r => congrArg Nat.succ r.len
theorem Rls.at {ts : List Str} {H : Hp} {a : Addr} : ∀ {as : List Addr} {ls : List (List Str)} {i : Nat}, Rls ts H as ls → as[i]? = some a → ∃ l, ls[i]? = some l ∧ H a = some (.tup (l.map V.str)) ∧ RuleOk ts l
  | _, _, _, .nil, e => by simp at e
  | _, _, 0, .cons h n r, e => by
    have := Option.some.inj e
    subst this
    exact ⟨_, rfl, h, n⟩
  | _, _, i + 1, .cons h n r, e => r.at (i := i) e
theorem Rls.set {ts : List Str} {H : Hp} {a : Addr} {l : List Str} (h : H a = some (.tup (l.map V.str))) (n : RuleOk ts l) : ∀ {as : List Addr} {ls : List (List Str)} (i : Nat), Rls ts H as ls → Rls ts H (as.set i a) (ls.set i l)
  | _, _, _, .nil => .nil
  | _, _, 0, .cons _ _ r => .cons h n r
  | _, _, i + 1, .cons h1 n1 r => .cons h1 n1 (Rls.set h n i r)
theorem Rls.mem {ts : List Str} {H : Hp} {as : List Addr} {ls : List (List Str)} (h : Rls ts H as ls) {a : Addr} (ha : a ∈ as) : ∃ l, H a = some (.tup (l.map V.str)) ∧ RuleOk ts l := by
  obtain ⟨i, hi, e⟩ := List.mem_iff_getElem.mp ha
  obtain ⟨l, _, h2, h3⟩ := h.at (i := i) (by rw [List.getElem?_eq_getElem hi, e])
  exact ⟨l, h2, h3⟩
/-- what stands from H0 on, all but the deck -/
structure Std (H0 H' : Hp) (d g : Addr) : Prop where
  dk : Deck H' d g
  kd : Kd d g H0 H'
theorem Std.refl {H : Hp} {d g : Addr} (h : Deck H d g) : Std H H d g := ⟨h, Kd.refl H⟩
theorem Std.draw {H0 H1 H2 : Hp} {d g : Addr} (s : Std H0 H1 d g) (h : Deck H2 d g) (k : Kd d g H1 H2) : Std H0 H2 d g := ⟨h, s.kd.trans k⟩
theorem Std.trans {H0 H1 H2 : Hp} {d g : Addr} (s : Std H0 H1 d g) (t : Std H1 H2 d g) : Std H0 H2 d g := ⟨t.dk, s.kd.trans t.kd⟩
theorem Std.new {H0 H1 : Hp} {d g p : Addr} {o : HO} (s : Std H0 H1 d g) (hp : H1 p = none) : Std H0 (upd H1 p o) d g := ⟨s.dk.same (same_upd hp), s.kd.trans (Same.kd (same_upd hp))⟩
theorem Std.free {H0 H1 : Hp} {d g p : Addr} (s : Std H0 H1 d g) (hp : H1 p = none) : H0 p = none := s.kd.free hp (s.dk.new hp).1 (s.dk.new hp).2
theorem Std.mut {H0 H1 : Hp} {d g p : Addr} {o : HO} (s : Std H0 H1 d g) (hp : H0 p = none) (n1 : p ≠ d) (n2 : p ≠ g) : Std H0 (upd H1 p o) d g := by
  refine ⟨?_, fun b u e h1 h2 => ?_⟩
  · obtain ⟨gs, a, m, h1, h2, h3⟩ := s.dk
    exact ⟨gs, a, m, by rw [upd_ne n1.symm]; exact h1, by rw [upd_ne n2.symm]; exact h2, h3⟩
  · rw [upd_ne (ne_of_none e hp)]
    exact s.kd b u e h1 h2
/-- a list apart from the deck -/
structure Lat (H : Hp) (d g p : Addr) (xs : List V) : Prop where
  at_ : H p = some (.lst xs)
  nd : p ≠ d
  ng : p ≠ g
theorem Lat.keep {H H' : Hp} {d g p : Addr} {xs : List V} (h : Lat H d g p xs) (k : Kd d g H H') : Lat H' d g p xs := ⟨k _ _ h.at_ h.nd h.ng, h.nd, h.ng⟩
theorem Lat.new {H : Hp} {d g p : Addr} {xs : List V} (h : Deck H d g) (hp : H p = none) : Lat (upd H p (.lst xs)) d g p xs := ⟨upd_same, (h.new hp).1, (h.new hp).2⟩
def kds : List Str := ["first", "last", "before", "upto", "same", "apart", "far", "next"]
theorem kds_two : ∀ z ∈ kds, z ∈ two ∨ z ∈ six := by decide +kernel
theorem kds_first : ∀ r : Nat, (h : r < kds.length) → r < 2 → kds[r] ∈ two := by decide +kernel
theorem two_in (z : Str) : inV (V.str z) [V.str ("first" : Str), V.str ("last" : Str)] = decide (z ∈ two) := inV_str z two
theorem turn_ne {n e p : Int} (hn : 2 ≤ n) (p0 : 0 ≤ p) (p1 : p < n) (e0 : 0 ≤ e) (e1 : e < n - 1) : 0 ≤ (p + 1 + e) % n ∧ (p + 1 + e) % n < n ∧ (p + 1 + e) % n ≠ p := by
  refine ⟨Int.emod_nonneg _ (by omega), Int.emod_lt_of_pos _ (by omega), ?_⟩
  by_cases h : p + 1 + e < n
  · rw [Int.emod_eq_of_lt (by omega) h]; omega
  · rw [← Int.sub_emod_right, Int.emod_eq_of_lt (by omega) (by omega)]; omega
def sp_rule : Sp := fun vs H Q _ => ∃ (d g t : Addr) (ts : List Str), vs = [.ref d, .ref t] ∧ Deck H d g ∧ Lat H d g t (ts.map V.str) ∧ TasksOk ts ∧
  ∀ (a : Addr) (l : List Str) (H' : Hp), Std H H' d g → H a = none → H' a = some (.tup (l.map V.str)) → RuleOk ts l → Q (.ref a) H'
theorem ok_law_rule (T : Tx K w mg) : FnOk P w K mg base CX0 2 T.f_law_rule T.d_law_rule ["deck", "task_list"] sp_rule := by
  refine T.F_law_rule.ok sc_law_rule (fun vs H Q E h => ?_) (fun cdv A outer s H vs Q E hr h => ?_)
  · obtain ⟨d, g, t, ts, rfl, _⟩ := h
    rfl
  · obtain ⟨d, g, t, ts, rfl, hD, lt, ok, k⟩ := h
    refine ⟨_,
    (pss_cons
      (ps_set (i := 2) sc_law_rule.nd rfl (.inl rfl) (pe_lst (pa_cons pe_str (pa_cons pe_str (pa_cons pe_str (pa_cons pe_str (pa_cons pe_str (pa_cons pe_str (pa_cons pe_str (pa_cons pe_str pa_nil))))))))))
    (pss_cons
      (ps_if (pt_cmpR op_eq (pe_callB call_len_seq (by rfl) T.m_len (by decide +kernel) (pa_cons (pv 1) pa_nil)) pe_int (nomark _))
        (pss_one
          (ps_ret (pe_tup (pa_cons (pe_ix ix_list (pv 2) (pe_call (ok_law_draw T) hr (by rfl) T.g_law_draw T.F_law_draw.kp T.b_law_draw .nil pass0 (pa_cons (pv 0) (pa_cons pe_int pa_nil))) (fun _ _ => rfl)) (pa_cons (pe_ix ix_list (pv 1) pe_int (fun _ _ => rfl)) pa_nil)))))
        pss_nil)
    (pss_cons
      (ps_set (i := 3) sc_law_rule.nd rfl (.inl rfl) (pe_ix ix_list (pv 2) (pe_call (ok_law_draw T) hr (by rfl) T.g_law_draw T.F_law_draw.kp T.b_law_draw .nil pass0 (pa_cons (pv 0) (pa_cons pe_int pa_nil))) (fun _ _ => rfl)))
    (pss_cons
      (ps_set (i := 4) sc_law_rule.nd rfl (.inl rfl) (pe_call (ok_law_draw T) hr (by rfl) T.g_law_draw T.F_law_draw.kp T.b_law_draw .nil pass0 (pa_cons (pv 0) (pa_cons (pe_callB call_len_seq (by rfl) T.m_len (by decide +kernel) (pa_cons (pv 1) pa_nil)) pa_nil))))
    (pss_cons
      (ps_if (pt_cmpR op_in_seq (pv 3) (pe_tup (pa_cons pe_str (pa_cons pe_str pa_nil))) (by rfl))
        (pss_one
          (ps_ret (pe_tup (pa_cons (pv 3) (pa_cons (pe_ix ix_list (pv 1) (pv 4) (fun _ _ => rfl)) pa_nil)))))
        pss_nil)
    (pss_one
      (ps_ret (pe_tup (pa_cons (pv 3) (pa_cons (pe_ix ix_list (pv 1) (pv 4) (fun _ _ => rfl)) (pa_cons (pe_ix ix_list (pv 1) (pe_op op_mod (pe_op op_add (pe_op op_add (pv 4) pe_int) (pe_call (ok_law_draw T) hr (by rfl) T.g_law_draw T.F_law_draw.kp T.b_law_draw .nil pass0 (pa_cons (pv 0) (pa_cons (pe_op op_sub (pe_callB call_len_seq (by rfl) T.m_len (by decide +kernel) (pa_cons (pv 1) pa_nil)) pe_int) pa_nil)))) (pe_callB call_len_seq (by rfl) T.m_len (by decide +kernel) (pa_cons (pv 1) pa_nil))) (fun _ _ => rfl)) pa_nil))))))))))), ?_⟩
    have tne : 0 < ts.length := List.length_pos_iff.mpr ok.ne
    have tfew := ok.few
    refine ⟨(by show 8 ≤ sizeLine; decide), fun Z hZ => ?_⟩
    have s1 : Std H (upd H Z (.lst (kds.map V.str))) d g := (Std.refl hD).new hZ
    have lz : Lat (upd H Z (.lst (kds.map V.str))) d g Z (kds.map V.str) := Lat.new hD hZ
    have lt1 := lt.keep s1.kd
    refine ⟨_, rfl, t, _, rfl, .inl (.of lt1.at_), rfl, _, rfl, ite2 (fun c => ?_) (fun c => ?_)⟩
    · have c1 : ts.length = 1 := by
        have := V.int.inj (of_decide_eq_true c)
        rw [List.length_map] at this
        omega
      refine ⟨_, rfl, _, rfl, d, g, 2, rfl, s1.dk, by decide, by decide +kernel, fun r H2 r0 r1 hD2 k2 => ?_⟩
      obtain ⟨r, rfl⟩ := Int.eq_ofNat_of_zero_le r0
      have s2 := s1.draw hD2 k2
      have hr8 : r < kds.length := by show r < 8; omega
      refine ⟨Z, _, _, V.str kds[r], rfl, rfl, .of (lz.keep k2).at_, atI_nat (by rw [List.getElem?_map, List.getElem?_eq_getElem hr8]; rfl), _, rfl, t, _, _, V.str ts[0], rfl, rfl, .of (lt.keep s2.kd).at_, atI_nat (j := 0) (by rw [List.getElem?_map, List.getElem?_eq_getElem tne]; rfl), (by show 2 ≤ sizeLine; decide), fun a ha => ?_⟩
      exact k a [kds[r], ts[0]] _ (s2.new ha) (s2.free ha) upd_same (.inl ⟨_, _, kds_first r hr8 (by omega), List.getElem_mem tne, rfl⟩)
    · have c1 : ts.length ≠ 1 := fun z => c (decide_eq_true (by rw [List.length_map, z]; rfl))
      refine ⟨_, rfl, _, rfl, d, g, 8, rfl, s1.dk, by decide, by decide +kernel, fun r H2 r0 r1 hD2 k2 => ?_⟩
      obtain ⟨r, rfl⟩ := Int.eq_ofNat_of_zero_le r0
      have s2 := s1.draw hD2 k2
      have hr8 : r < kds.length := by show r < 8; omega
      refine ⟨Z, _, _, V.str kds[r], rfl, rfl, .of (lz.keep k2).at_, atI_nat (by rw [List.getElem?_map, List.getElem?_eq_getElem hr8]; rfl), ?_⟩
      have hk := kds_two _ (List.getElem_mem hr8)
      generalize kds[r] = kd at hk
      -- one
      have lt2 := lt.keep s2.kd
      refine ⟨_, rfl, _, rfl, t, _, rfl, .inl (.of lt2.at_), d, g, _, rfl, s2.dk, ?_, ?_, fun p H3 p0 p1 hD3 k3 => ?_⟩
      · rw [List.length_map]; omega
      · rw [List.length_map]; exact small_log (by omega)
      rw [List.length_map] at p1
      obtain ⟨p, rfl⟩ := Int.eq_ofNat_of_zero_le p0
      have s3 := s2.draw hD3 k3
      have hp : p < ts.length := by omega
      refine ⟨_, rfl, (by show 2 ≤ sizeLine; decide), fun U hU => ⟨U, _, rfl, .inr (.of upd_same), rfl, rfl, _, rfl, ?_⟩⟩
      have s4 : Std H (upd H3 U (.tup [.str ("first" : Str), .str ("last" : Str)])) d g := s3.new hU
      have lt4 := lt.keep s4.kd
      refine ite2 (fun c => ?_) (fun c => ?_)
      · have h1 : inV (V.str kd) [V.str ("first" : Str), V.str ("last" : Str)] = true := c
        rw [two_in] at h1
        refine ⟨_, rfl, _, rfl, _, rfl, t, _, _, V.str ts[p], rfl, rfl, .of lt4.at_, atI_nat (by rw [List.getElem?_map, List.getElem?_eq_getElem hp]; rfl), (by show 2 ≤ sizeLine; decide), fun a ha => ?_⟩
        exact k a [kd, ts[p]] _ (s4.new ha) (s4.free ha) upd_same (.inl ⟨_, _, of_decide_eq_true h1, List.getElem_mem hp, rfl⟩)
      · have h1 : ¬ inV (V.str kd) [V.str ("first" : Str), V.str ("last" : Str)] = true := c
        rw [two_in] at h1
        have h2 : kd ∉ two := fun z => h1 (decide_eq_true z)
        have h3 : kd ∈ six := hk.resolve_left h2
        refine ⟨_, rfl, _, rfl, _, rfl, t, _, _, V.str ts[p], rfl, rfl, .of lt4.at_, atI_nat (by rw [List.getElem?_map, List.getElem?_eq_getElem hp]; rfl), ?_⟩
        refine ⟨_, rfl, _, rfl, _, _, rfl, rfl, _, rfl, _, rfl, t, _, rfl, .inl (.of lt4.at_), _, _, rfl, rfl, d, g, _, rfl, s4.dk, ?_, ?_, fun e H5 e0 e1 hD5 k5 => ?_⟩
        · show (0 : Int) < ((ts.map V.str).length : Int) - 1
          rw [List.length_map]; omega
        · refine small_log ?_
          show (((ts.map V.str).length : Int) - 1).natAbs < 1024
          rw [List.length_map]; omega
        have e2 : e < ((ts.map V.str).length : Int) - 1 := e1
        rw [List.length_map] at e2
        have s5 := s4.draw hD5 k5
        have lt5 := lt.keep s5.kd
        obtain ⟨q0, q1, qn⟩ := turn_ne (n := ts.length) (e := e) (p := p) (by omega) (by omega) (by omega) e0 e2
        obtain ⟨q, hq⟩ := Int.eq_ofNat_of_zero_le q0
        have hql : q < ts.length := by omega
        refine ⟨_, _, rfl, rfl, _, rfl, t, _, rfl, .inl (.of lt5.at_), _, _, rfl, rfl, ?_, t, _, _, V.str ts[q], rfl, rfl, .of lt5.at_, at_of (j := q) ?_ (by rw [List.getElem?_map, List.getElem?_eq_getElem hql]; rfl), (by show 3 ≤ sizeLine; decide), fun a ha => ?_⟩
        · show (0 : Int) < ((ts.map V.str).length : Int)
          rw [List.length_map]; omega
        · show ((p : Int) + 1 + e) % ((ts.map V.str).length : Int) = (q : Int)
          rw [List.length_map]; exact hq
        refine k a [kd, ts[p], ts[q]] _ (s5.new ha) (s5.free ha) upd_same (.inr ⟨_, _, _, h3, List.getElem_mem hp, List.getElem_mem hql, fun z => ?_, rfl⟩)
        have := (List.getElem_inj ok.nd).mp z
        omega
def sp_order : Sp := fun vs H Q _ => ∃ (d g : Addr) (n : Nat), vs = [.ref d, .int n] ∧ Deck H d g ∧ n ≤ 1000 ∧
  ∀ (p : Addr) (os : List Int) (H' : Hp), Std H H' d g → H p = none → H' p = some (.lst (os.map V.int)) → p ≠ d → p ≠ g → (∀ o ∈ os, 0 ≤ o ∧ o < n) → os.length = n → os.Nodup → Q (.ref p) H'
theorem erase_map : ∀ (l : List Int) (j : Nat), (l.map V.int).eraseIdx j = (l.eraseIdx j).map V.int
  | [], _ => rfl
  | _ :: _, 0 => rfl
  | a :: r, j + 1 => by
    show V.int a :: (r.map V.int).eraseIdx j = V.int a :: (r.eraseIdx j).map V.int
    rw [erase_map r j]
def rng (n : Nat) : List Int := (List.range n).map Int.ofNat
theorem rng_v (n : Nat) : rgV 0 (n : Int) = (rng n).map V.int := by
  unfold rgV rng
  rw [List.map_map, show ((n : Int) - 0).toNat = n by omega]
  refine List.map_congr_left fun i _ => ?_
  show V.int (0 + (i : Int)) = V.int (i : Int)
  rw [Int.zero_add]
theorem rng_in {n : Nat} {o : Int} (h : o ∈ rng n) : 0 ≤ o ∧ o < n := by
  obtain ⟨i, hi, rfl⟩ := List.mem_map.mp h
  have := List.mem_range.mp hi
  have e : Int.ofNat i = (i : Int) := rfl
  omega
theorem rng_nd (n : Nat) : (rng n).Nodup := by
  unfold rng List.Nodup
  rw [List.pairwise_map]
  exact (List.nodup_range (n := n)).imp fun h z => h (Int.ofNat.inj z)
theorem rng_len (n : Nat) : (rng n).length = n := by
  unfold rng
  rw [List.length_map, List.length_range]
theorem log20 {m : Int} (h : m.natAbs < 1048576) : m.natAbs.log2 < 9000 := by
  have h1 : m.natAbs.log2 < 20 := PySem.Flt.log2_lt_of (by decide) h
  omega
theorem perm_erase : ∀ (l : List Int) (j : Nat) (h : j < l.length), l.Perm (l[j] :: l.eraseIdx j)
  | a :: r, 0, _ => List.Perm.refl _
  | a :: r, j + 1, h => by
    have ih := perm_erase r j (Nat.lt_of_succ_lt_succ h)
    exact (List.Perm.cons a ih).trans (List.Perm.swap _ _ _)
theorem ok_law_order (T : Tx K w mg) : FnOk P w K mg base CX0 2 T.f_law_order T.d_law_order ["deck", "many"] sp_order := by
  refine T.F_law_order.ok sc_law_order (fun vs H Q E h => ?_) (fun cdv A outer s H vs Q E hr h => ?_)
  · obtain ⟨d, g, n, rfl, _⟩ := h
    rfl
  · obtain ⟨d, g, n, rfl, hD, hn, k⟩ := h
    refine ⟨_,
    (pss_cons
      (ps_set (i := 2) sc_law_order.nd rfl (.inr rfl) (pe_listRg rfl (by rfl) T.m_list (prg_1 (by rfl) T.m_range (pv 1))))
    (pss_one
      (ps_ret (pe_lc (own := [("k", 3)]) (g := gName 3) rfl sc_law_order.nd (pi_range1 (by rfl) T.m_range (pa_cons (pv 1) pa_nil)) (blkOk_by (N := ["deck", "many", "left", "k"]) (sc := defScope s_law_order) (own := [("k", 3)]) (by decide +kernel)) (fun _ _ _ _ _ => (pg_name (i := 3) sc_law_order.nd rfl (.inl rfl))) (fun _ _ _ _ _ => pts_nil) (fun _ _ _ _ _ => (pe_bmK (K := K) rfl PySem.F.plainAttrs_list PySem.F.slot_list_pop PySem.F.type_list_pop mt_popAt (pv 2) (pa_cons (pe_call (ok_law_draw T) hr (by rfl) T.g_law_draw T.F_law_draw.kp T.b_law_draw .nil pass0 (pa_cons (pv 0) (pa_cons (pe_callB (id := "len") (r := rLen K) call_len_seq (by rfl) T.m_len (by decide +kernel) (pa_cons (pv 2) pa_nil)) pa_nil))) pa_nil))))))), ?_⟩
    refine ⟨_, rfl, _, rfl, ?_, fun L hL => ?_⟩
    · exact RgOk.of_le (by omega) (by omega) (by omega) (by omega)
    rw [rng_v]
    have dL := hD.new hL
    have s1 : Std H (upd H L (.lst ((rng n).map V.int))) d g := (Std.refl hD).new hL
    have e1 : (upd H L (.lst ((rng n).map V.int))) L = some (.lst ((rng n).map V.int)) := upd_same
    generalize upd H L (.lst ((rng n).map V.int)) = H1 at s1 e1
    refine ⟨_, rfl, _, rfl, by omega, by omega, fun D hDn => ?_⟩
    have dD := s1.dk.new hDn
    have LD : L ≠ D := ne_of_none e1 hDn
    have fD := s1.free hDn
    refine lc_range (lo := 0) (n := ((n : Int)).toNat) (fun i H' => ∃ os ls : List Int, Std H H' d g ∧ H' L = some (.lst (ls.map V.int)) ∧ H' D = some (.lst (os.map V.int)) ∧ (os ++ ls).Nodup ∧ (∀ o ∈ os ++ ls, 0 ≤ o ∧ o < n) ∧ os.length = i ∧ ls.length + i = n) ?_ ?_ ?_
    · exact ⟨[], rng n, s1.new hDn, by rw [upd_ne LD]; exact e1, upd_same, rng_nd n, fun o ho => rng_in ho, rfl, rng_len n⟩
    · rintro i H2 hi ⟨os, ls, s2, eL, eD, nd, hin, ol, ll⟩
      have hi2 : i < n := by
        have : i < ((n : Int)).toNat := hi
        omega
      refine ⟨rfl, _, rfl, .inl ⟨rfl, _, .of eL⟩, _, rfl, _, rfl, L, _, rfl, .inl (.of eL), d, g, _, rfl, s2.dk, ?_, ?_, fun r H3 r0 r1 hD3 k3 => ?_⟩
      · show (0 : Int) < ((ls.map V.int).length : Int)
        rw [List.length_map]; omega
      · refine log20 ?_
        show (((ls.map V.int).length : Nat) : Int).natAbs < 1048576
        rw [List.length_map]; omega
      have r2 : r < ((ls.map V.int).length : Int) := r1
      rw [List.length_map] at r2
      obtain ⟨j, rfl⟩ := Int.eq_ofNat_of_zero_le r0
      have hj : j < ls.length := by omega
      have s3 := s2.draw hD3 k3
      have eL3 := k3 _ _ eL dL.1 dL.2
      have eD3 := k3 _ _ eD dD.1 dD.2
      have pm : (os ++ ls).Perm ((os ++ [ls[j]]) ++ ls.eraseIdx j) := by
        rw [List.append_assoc]
        exact List.Perm.append_left os (perm_erase ls j hj)
      refine ⟨L, ls.map V.int, j, j, V.int ls[j], rfl, rfl, eL3, by omega, by omega, (ixN_seq (ixN_nat (by rw [List.length_map]; exact hj))).1, by rw [List.getElem?_map, List.getElem?_eq_getElem hj]; rfl, os.map V.int, ?_, ?_, os ++ [ls[j]], ls.eraseIdx j, (s3.mut hL dL.1 dL.2).mut fD dD.1 dD.2, ?_, ?_, pm.nodup_iff.mp nd, fun o ho => hin o (pm.mem_iff.mpr ho), ?_, ?_⟩
      · rw [upd_ne LD.symm]; exact eD3
      · rw [List.length_map, ol]; exact small1000 (by omega)
      · rw [upd_ne LD, upd_same, erase_map]
      · rw [upd_same, List.map_append]; rfl
      · rw [List.length_append, ol]; rfl
      · rw [List.length_eraseIdx_of_lt hj]; omega
    · rintro H2 ⟨os, ls, s2, eL, eD, nd, hin, ol, ll⟩
      exact k D os H2 s2 fD eD dD.1 dD.2 (fun o ho => hin o (List.mem_append_left _ ho)) (by rw [ol]; omega) (List.nodup_append.mp nd).1
theorem ixN_last {n : Nat} (h : 0 < n) : ixN n (-1) = some (n - 1) := by
  unfold ixN
  rw [if_neg (by decide), if_pos (by omega)]
  congr 1
  omega
def sp_data : Sp := fun vs H Q _ => ∃ (d g : Addr) (mt mr : Int), vs = [.ref d, .int mt, .int mr] ∧ Deck H d g ∧ 0 < mt ∧ mt ≤ 12 ∧ 0 ≤ mr ∧ mr ≤ 100 ∧
  ∀ (u t r : Addr) (ts : List Str) (as : List Addr) (ls : List (List Str)) (H' : Hp), Std H H' d g → H t = none → H r = none → H' u = some (.tup [.ref t, .ref r]) → Lat H' d g t (ts.map V.str) → Lat H' d g r (as.map V.ref) → t ≠ r → Rls ts H' as ls → TasksOk ts → ts.length ≤ 12 → as.length ≤ mr → Q (.ref u) H'
theorem ok_law_data (T : Tx K w mg) : FnOk P w K mg base CX0 3 T.f_law_data T.d_law_data ["deck", "most_tasks", "most_rules"] sp_data := by
  refine T.F_law_data.ok sc_law_data (fun vs H Q E h => ?_) (fun cdv A outer s H vs Q E hr h => ?_)
  · obtain ⟨d, g, mt, mr, rfl, _⟩ := h
    rfl
  · obtain ⟨d, g, mt, mr, rfl, hD, t0, t1, r0, r1, k⟩ := h
    refine ⟨_,
    (pss_cons
      (ps_set (i := 3) sc_law_data.nd rfl (.inr rfl) (pe_call (ok_law_names T) hr (by rfl) T.g_law_names T.F_law_names.kp T.b_law_names .nil pass0 (pa_cons (pv 0) (pa_cons (pe_op op_add pe_int (pe_call (ok_law_draw T) (hr.mono (by decide)) (by rfl) T.g_law_draw T.F_law_draw.kp T.b_law_draw .nil pass0 (pa_cons (pv 0) (pa_cons (pv 1) pa_nil)))) pa_nil))))
    (pss_cons
      (ps_setLc (i := 4) (own := [("k", 5)]) (g := gName 5) rfl sc_law_data.nd rfl rfl (sw_true rfl rfl rfl (by decide +kernel)) (pi_range1 (by rfl) T.m_range (pa_cons (pe_call (ok_law_draw T) (hr.mono (by decide)) (by rfl) T.g_law_draw T.F_law_draw.kp T.b_law_draw .nil pass0 (pa_cons (pv 0) (pa_cons (pe_op op_add (pv 2) pe_int) pa_nil))) pa_nil)) (blkOk_by (N := ["deck", "most_tasks", "most_rules", "task_list", "rule_list", "k"]) (sc := defScope s_law_data) (own := [("k", 5)]) (by decide +kernel)) (fun _ _ _ _ _ => (pg_name (i := 5) sc_law_data.nd rfl (.inl rfl))) (fun _ _ _ _ _ => pts_nil) (fun _ _ _ _ _ => (pe_call (ok_law_rule T) hr (by rfl) T.g_law_rule T.F_law_rule.kp T.b_law_rule .nil pass0 (pa_cons (pv 0) (pa_cons (pv 3) pa_nil)))))
    (C8.pss_cut
      (ps_if (PW.pt (pw_and (pt_cmpR op_gt (pe_callB call_len_seq (by rfl) T.m_len (by decide +kernel) (pa_cons (pv 4) pa_nil)) pe_int (nomark _)) (pw_and1 (pt_cmpR op_eq (pe_call (ok_law_draw T) (hr.mono (by decide)) (by rfl) T.g_law_draw T.F_law_draw.kp T.b_law_draw .nil pass0 (pa_cons (pv 0) (pa_cons pe_int pa_nil))) pe_int (nomark _)))))
        (pss_one
          (ps_asg (pe_ix ix_list (pv 4) pe_int (fun _ _ => rfl)) (pg_sub (pv 4) (pe_un un_neg pe_int) set_list)))
        pss_nil)
    (pss_one
      (ps_ret (pe_tup (pa_cons (pv 3) (pa_cons (pv 4) pa_nil)))))))), ?_⟩
    refine ⟨_, rfl, _, rfl, _, rfl, d, g, mt, rfl, hD, t0, small_log (by omega), fun m H1 m0 m1 hD1 k1 => ?_⟩
    obtain ⟨m, rfl⟩ := Int.eq_ofNat_of_zero_le m0
    refine ⟨_, _, rfl, rfl, d, g, 1 + m, rfl, hD1, by omega, by omega, fun t ts H2 hD2 k2 ft et n1 n2 tl tn td => ?_⟩
    have s2 : Std H H2 d g := ((Std.refl hD).draw hD1 k1).draw hD2 k2
    have lt : Lat H2 d g t (ts.map V.str) := ⟨et, n1, n2⟩
    have ok : TasksOk ts := ⟨fun z => by rw [z] at tl; simp at tl; omega, tn, td, by omega⟩
    have ft0 : H t = none := ((Std.refl hD).draw hD1 k1).free ft
    clear hD1 k1 hD2 k2 ft et n1 n2
    -- rule_list
    refine ⟨_, rfl, _, rfl, _, _, rfl, rfl, d, g, _, rfl, s2.dk, ?_, ?_, fun n H3 n0 n1 hD3 k3 => ⟨_, rfl, ?_, ?_, fun R hR => ?_⟩⟩
    · show (0 : Int) < mr + 1
      omega
    · exact small_log (by show (mr + 1).natAbs < 1024; omega)
    · have : n < mr + 1 := n1
      omega
    · have : n < mr + 1 := n1
      omega
    have n2 : n < mr + 1 := n1
    have s3 := s2.draw hD3 k3
    have lt3 := lt.keep k3
    have dR := s3.dk.new hR
    have fR := s3.free hR
    have tR : t ≠ R := ne_of_none lt3.at_ hR
    refine lc_range (lo := 0) (n := n.toNat) (fun i H' => ∃ as ls, Std H3 H' d g ∧ Rls ts H' as ls ∧ as.length = i ∧ H' R = some (.lst (as.map V.ref))) ?_ ?_ ?_
    · exact ⟨[], [], (Std.refl s3.dk).new hR, .nil, rfl, upd_same⟩
    · rintro i H4 hi ⟨as, ls, s4, rl, al, eR⟩
      refine ⟨rfl, _, rfl, _, rfl, d, g, t, ts, rfl, s4.dk, lt3.keep s4.kd, ok, fun a l H5 s5 fa ea rok => ?_⟩
      have eR5 := s5.kd _ _ eR dR.1 dR.2
      have s35 := s4.trans s5
      refine ⟨as.map V.ref, eR5, ?_, as ++ [a], ls ++ [l], s35.mut hR dR.1 dR.2, ?_, ?_, ?_⟩
      · rw [List.length_map, al]; exact small1000 (by omega)
      · exact ((rl.keep (Kd.tk s5.kd s4.dk)).snoc ea rok).keep (tk_mut eR5)
      · rw [List.length_append, al]; rfl
      · rw [upd_same, List.map_append]; rfl
    · rintro H4 ⟨as, ls, s4, rl, al, eR⟩
      have lt4 := lt3.keep s4.kd
      refine ⟨fun σ' H' => ∃ as ls, σ' = [some (.ref d), some (.int mt), some (.int mr), some (.ref t), some (.ref R), none] ∧ Std H H' d g ∧ Rls ts H' as ls ∧ as.length = n.toNat ∧ H' R = some (.lst (as.map V.ref)) ∧ Lat H' d g t (ts.map V.str), ?_, ?_⟩
      · have s04 := s3.trans s4
        refine ⟨_, rfl, R, _, rfl, .inl (.of eR), _, _, rfl, rfl, _, rfl, ite2 (fun c => ?_) (fun c => ⟨as, ls, rfl, s04, rl, al, eR, lt4⟩)⟩
        have c1 : (1 : Int) < ((as.map V.ref).length : Int) := of_decide_eq_true c
        rw [List.length_map] at c1
        refine ⟨_, rfl, d, g, 4, rfl, s04.dk, by decide, by decide +kernel, fun e H5 e0 e1 hD5 k5 => ⟨rfl, _, rfl, ?_⟩⟩
        have s05 := s04.draw hD5 k5
        have eR5 := k5 _ _ eR dR.1 dR.2
        have rl5 := rl.keep (Kd.tk k5 s04.dk)
        refine ite2 (fun c => ?_) (fun c => ⟨as, ls, rfl, s05, rl5, al, eR5, lt4.keep k5⟩)
        have h0 : as[0]? = some as[0] := List.getElem?_eq_getElem (by omega)
        obtain ⟨l, hl, ea, rok⟩ := rl5.at h0
        refine ⟨_, rfl, R, _, _, V.ref as[0], rfl, rfl, .of eR5, atI_nat (j := 0) (by rw [List.getElem?_map, h0]; rfl), _, rfl, _, rfl, R, as.map V.ref, _, as.length - 1, rfl, rfl, eR5, ?_, as.set (as.length - 1) as[0], ls.set (as.length - 1) l, rfl, s05.mut fR dR.1 dR.2, ?_, ?_, ?_, ?_⟩
        · have := ixN_last (n := (as.map V.ref).length) (by rw [List.length_map]; omega)
          rw [List.length_map] at this ⊢
          exact this
        · exact (Rls.set ea rok _ rl5).keep (tk_mut eR5)
        · rw [List.length_set, al]
        · rw [upd_same, List.map_set]
        · exact ⟨by rw [upd_ne tR]; exact (lt4.keep k5).at_, lt4.nd, lt4.ng⟩
      · rintro σ H5 ⟨as, ls, rfl, s5, rl, al, eR, lt5⟩
        refine ⟨_, rfl, _, rfl, (by show 2 ≤ sizeLine; decide), fun u hu => ?_⟩
        have su := same_upd (o := .tup [.ref t, .ref R]) hu
        exact k u t R ts as ls _ (s5.new hu) ft0 fR upd_same (lt5.keep (Same.kd su)) ⟨su _ _ eR, dR.1, dR.2⟩ tR (rl.keep (Same.tk su)) ok (by omega) (by omega)
/-! ### data as wholes -/
theorem nm_ok {z : Str} (h : Nm z) : PyData.canLay0 (.str z) = true := by
  simp only [PyData.canLay0, PyData.strOk, Array.all_eq_true, decide_eq_true_eq]
  intro i hi
  have hm : z.cps[i] ∈ z.cps.toList := by simp
  have := h.low _ hm
  omega
theorem kd_ok : ∀ z ∈ two ++ six, PyData.canLay0 (.str z) = true := by decide +kernel
theorem rule_ok {ts l : List Str} (ok : TasksOk ts) (h : RuleOk ts l) : ∀ z ∈ l, PyData.canLay0 (.str z) = true := by
  rcases h with ⟨k, x, h1, h2, rfl⟩ | ⟨k, x, y, h1, h2, h3, _, rfl⟩
  · intro z hz
    simp only [List.mem_cons, List.not_mem_nil, or_false] at hz
    rcases hz with rfl | rfl
    · exact kd_ok _ (List.mem_append_left _ h1)
    · exact nm_ok (ok.nm _ h2)
  · intro z hz
    simp only [List.mem_cons, List.not_mem_nil, or_false] at hz
    rcases hz with rfl | rfl | rfl
    · exact kd_ok _ (List.mem_append_right _ h1)
    · exact nm_ok (ok.nm _ h2)
    · exact nm_ok (ok.nm _ h3)
theorem lay_strs : ∀ {ss : List Str}, (∀ z ∈ ss, PyData.canLay0 (.str z) = true) → PyData.canLayAll0 (ss.map PyData.str) = true
  | [], _ => rfl
  | a :: r, h => by
    show (PyData.canLay0 (.str a) && PyData.canLayAll0 (r.map PyData.str)) = true
    rw [h a List.mem_cons_self, lay_strs fun z hz => h z (List.mem_cons_of_mem _ hz)]
    rfl
theorem depth_strs : ∀ (ss : List Str), PyData.depthAll (ss.map PyData.str) ≤ 1
  | [] => by simp [PyData.depthAll]
  | a :: r => by
    have := depth_strs r
    simp only [List.map_cons, PyData.depthAll, PyData.depth]
    omega
theorem dp_strs {H : Hp} : ∀ {ss : List Str}, DpAll K H (ss.map V.str) (ss.map PyData.str)
  | [] => .nil
  | _ :: _ => .cons (.str _) dp_strs
def tdata (ts : List Str) : PyData := .list (ts.map PyData.str)
def rdata (l : List Str) : PyData := .tuple (l.map PyData.str)
def rsdata (ls : List (List Str)) : PyData := .list (ls.map rdata)
theorem tdata_ok {ts : List Str} (ok : TasksOk ts) : SeqAt.shaped (tdata ts) = true := by
  unfold SeqAt.shaped
  rw [Bool.and_eq_true]
  have h := depth_strs ts
  exact ⟨lay_strs fun z hz => nm_ok (ok.nm z hz), decide_eq_true (by simp only [tdata, PyData.depth]; omega)⟩
theorem lay_rules {ts : List Str} (ok : TasksOk ts) : ∀ {ls : List (List Str)}, (∀ l ∈ ls, RuleOk ts l) → PyData.canLayAll0 (ls.map rdata) = true
  | [], _ => rfl
  | l :: r, h => by
    show (PyData.canLayAll0 (l.map PyData.str) && PyData.canLayAll0 (r.map rdata)) = true
    rw [lay_strs (rule_ok ok (h l List.mem_cons_self)), lay_rules ok fun z hz => h z (List.mem_cons_of_mem _ hz)]
    rfl
theorem depth_rules : ∀ (ls : List (List Str)), PyData.depthAll (ls.map rdata) ≤ 2
  | [] => by simp [PyData.depthAll]
  | l :: r => by
    have h1 := depth_rules r
    have h2 := depth_strs l
    show PyData.depthAll (PyData.tuple (l.map PyData.str) :: r.map rdata) ≤ 2
    simp only [PyData.depthAll, PyData.depth]
    omega
theorem rsdata_ok {ts : List Str} (ok : TasksOk ts) {ls : List (List Str)} (h : ∀ l ∈ ls, RuleOk ts l) : SeqAt.shaped (rsdata ls) = true := by
  unfold SeqAt.shaped
  rw [Bool.and_eq_true]
  have h2 := depth_rules ls
  exact ⟨lay_rules ok h, decide_eq_true (by simp only [rsdata, PyData.depth]; omega)⟩
theorem Rls.dp {ts : List Str} {H : Hp} : ∀ {as : List Addr} {ls : List (List Str)}, Rls ts H as ls → DpAll K H (as.map V.ref) (ls.map rdata)
  | _, _, .nil => .nil
  | _, _, .cons h _ r => .cons (.tup (.of h) dp_strs) r.dp
theorem Rls.all {ts : List Str} {H : Hp} : ∀ {as : List Addr} {ls : List (List Str)}, Rls ts H as ls → ∀ l ∈ ls, RuleOk ts l
  | _, _, .nil, l, h => absurd h List.not_mem_nil
  | _, _, .cons _ n r, l, h => by
    rcases List.mem_cons.mp h with e | h
    · rw [e]; exact n
    · exact r.all l h
/-- the rules ls stand in the list r -/
def Rl (ts : List Str) (H : Hp) (d g r : Addr) (ls : List (List Str)) : Prop := ∃ as, Lat H d g r (as.map V.ref) ∧ Rls ts H as ls
theorem Rl.keep {ts : List Str} {H H' : Hp} {d g r : Addr} {ls : List (List Str)} (h : Rl ts H d g r ls) (hD : Deck H d g) (k : Kd d g H H') : Rl ts H' d g r ls := by
  obtain ⟨as, h1, h2⟩ := h
  exact ⟨as, h1.keep k, h2.keep (Kd.tk k hD)⟩
/-- a book stands at b -/
def Bk (C : Addr) (H : Hp) (d g b : Addr) (ts : List Str) (ls : List (List Str)) : Prop := ∃ dx t r, H b = some (.ins C dx (fl t r)) ∧ Lat H d g t (ts.map V.str) ∧ Rl ts H d g r ls
theorem Bk.keep {C : Addr} {ts : List Str} {H H' : Hp} {d g b : Addr} {ls : List (List Str)} (h : Bk C H d g b ts ls) (hD : Deck H d g) (k : Kd d g H H') : Bk C H' d g b ts ls := by
  obtain ⟨dx, t, r, h1, h2, h3⟩ := h
  obtain ⟨gs, a, m, e1, e2, _⟩ := id hD
  exact ⟨dx, t, r, k _ _ h1 (ne_of h1 e1 (by intro z; cases z)) (ne_of h1 e2 (by intro z; cases z)), h2.keep k, h3.keep hD k⟩
theorem small_log2 {m : Int} (h : m.natAbs < 2048) : m.natAbs.log2 < 9000 := by
  have h1 : m.natAbs.log2 < 11 := PySem.Flt.log2_lt_of (by decide) h
  omega
theorem iteEq {x : Bool} {A B : Prop} (h : x = true) (hB : B) : if (!x) = true then A else B := by
  rw [h]
  exact iteF hB
theorem small_of {n : Nat} (h : n ≤ 5000) : n < sizeLine := Nat.lt_of_le_of_lt h (by decide)
def sp_shows (K : PySem.W.Frag) (C : Addr) : Sp := fun vs H Q _ => ∃ (d g b t r : Addr) (ts : List Str) (ls : List (List Str)), vs = [.ref d, .ref b, .ref t, .ref r] ∧ Deck H d g ∧ Bk C H d g b ts ls ∧ Lat H d g t (ts.map V.str) ∧ Rl ts H d g r ls ∧ TasksOk ts ∧ ls.length ≤ 1000 ∧
  ∀ H', Std H H' d g → Q (.bl true) H'
theorem ok_law_shows (T : Tx K w mg) : FnOk P w K mg base CX0 3 T.f_law_shows T.d_law_shows ["deck", "book", "task_list", "rule_list"] (sp_shows K T.C_Book) := by
  refine T.F_law_shows.ok sc_law_shows (fun vs H Q E h => ?_) (fun cdv A outer s H vs Q E hr h => ?_)
  · obtain ⟨d, g, b, t, r, ts, ls, rfl, _⟩ := h
    rfl
  · obtain ⟨d, g, b, t, r, ts, ls, rfl, hD, hB, lt, hR, ok, few, k⟩ := h
    refine ⟨_,
    (pss_cons
      (ps_for PassesOwn.never rfl (pi_list (pe_call (ok_law_order T) hr (by rfl) T.g_law_order T.F_law_order.kp T.b_law_order .nil pass0 (pa_cons (pv 0) (pa_cons pe_int pa_nil)))) (pg_name (i := 4) sc_law_shows.nd rfl (.inl rfl))
        (C8.pss_cut
          (ps_if (pt_cmpR op_eq (pv 4) pe_int (nomark _))
            (pss_cons
              (ps_set (i := 5) sc_law_shows.nd rfl (.inl rfl) (pe_prop (pv 1) T.cl_Book T.pr_Book_tasks (ok_Book_tasks T) hr T.b_Book_tasks .nil pass0 (by rfl)))
            (pss_cons
              (ps_if (PW.pt (pw_or (pt_not (pt_val (pe_callB call_isi (by rfl) T.m_isinstance (by decide +kernel) (pa_cons (pv 5) (pa_cons (pe_bltn (v := .ty "list") (by rfl) T.m_list (by decide +kernel) rfl) pa_nil))))) (pw_or (pt_cmpR (op_neD hr.units) (pv 5) (pv 2) (nomark _)) (pw_or1 (pt_not (pt_val (pe_callB (cr_all rfl) (by rfl) T.m_all (by decide +kernel) (pa_cons (pe_lc (own := [("name", 7)]) (g := gName 7) rfl sc_law_shows.nd (pi_list (pv 5)) (blkOk_by (N := ["deck", "book", "task_list", "rule_list", "at", "told", "many", "name", "rule"]) (sc := defScope s_law_shows) (own := [("name", 7)]) (by decide +kernel)) (fun _ _ _ _ _ => (pg_name (i := 7) sc_law_shows.nd rfl (.inl rfl))) (fun _ _ _ _ _ => pts_nil) (fun _ _ _ _ _ => (pe_callB (id := "isinstance") (r := rIsi K) call_isi (by rfl) T.m_isinstance (by decide +kernel) (pa_cons (pv 7) (pa_cons (pe_bltn (v := .ty "str") (by rfl) T.m_str (by decide +kernel) rfl) pa_nil))))) pa_nil))))))))
                (pss_one
                  (ps_ret pe_bl))
                pss_nil)
            (pss_cons
              (ps_asg pe_str (pg_sub (pv 5) (pe_call (ok_law_draw T) (hr.mono (by decide)) (by rfl) T.g_law_draw T.F_law_draw.kp T.b_law_draw .nil pass0 (pa_cons (pv 0) (pa_cons (pe_callB call_len_seq (by rfl) T.m_len (by decide +kernel) (pa_cons (pv 5) pa_nil)) pa_nil))) set_list))
            (pss_one
              (ps_expr (pe_bm PySem.F.plainAttrs_list PySem.F.slot_list_append PySem.F.type_list_append mt_append (pv 5) (pa_cons pe_str pa_nil)))))))
            pss_nil)
        (C8.pss_cut
          (ps_if (pt_cmpR op_eq (pv 4) pe_int (nomark _))
            (pss_cons
              (ps_set (i := 5) sc_law_shows.nd rfl (.inl rfl) (pe_prop (pv 1) T.cl_Book T.pr_Book_rules (ok_Book_rules T) hr T.b_Book_rules .nil pass0 (by rfl)))
            (pss_cons
              (ps_if (PW.pt (pw_or (pt_not (pt_val (pe_callB call_isi (by rfl) T.m_isinstance (by decide +kernel) (pa_cons (pv 5) (pa_cons (pe_bltn (v := .ty "list") (by rfl) T.m_list (by decide +kernel) rfl) pa_nil))))) (pw_or (pt_cmpR (op_neD hr.units) (pv 5) (pv 3) (nomark _)) (pw_or1 (pt_not (pt_val (pe_callB (cr_all rfl) (by rfl) T.m_all (by decide +kernel) (pa_cons (pe_lc (own := [("rule", 8)]) (g := gName 8) rfl sc_law_shows.nd (pi_list (pv 5)) (blkOk_by (N := ["deck", "book", "task_list", "rule_list", "at", "told", "many", "name", "rule"]) (sc := defScope s_law_shows) (own := [("rule", 8)]) (by decide +kernel)) (fun _ _ _ _ _ => (pg_name (i := 8) sc_law_shows.nd rfl (.inl rfl))) (fun _ _ _ _ _ => pts_nil) (fun _ _ _ _ _ => (pe_callB (id := "isinstance") (r := rIsi K) call_isi (by rfl) T.m_isinstance (by decide +kernel) (pa_cons (pv 8) (pa_cons (pe_bltn (v := .ty "tuple") (by rfl) T.m_tuple (by decide +kernel) rfl) pa_nil))))) pa_nil))))))))
                (pss_one
                  (ps_ret pe_bl))
                pss_nil)
            (pss_cons
              (ps_expr (pe_bm PySem.F.plainAttrs_list PySem.F.slot_list_insert PySem.F.type_list_insert mt_insert (pv 5) (pa_cons (pe_call (ok_law_draw T) (hr.mono (by decide)) (by rfl) T.g_law_draw T.F_law_draw.kp T.b_law_draw .nil pass0 (pa_cons (pv 0) (pa_cons (pe_op op_add (pe_callB call_len_seq (by rfl) T.m_len (by decide +kernel) (pa_cons (pv 5) pa_nil)) pe_int) pa_nil))) (pa_cons (pe_tup (pa_cons pe_str (pa_cons pe_str pa_nil))) pa_nil))))
            (pss_one
              (ps_expr (pe_bm0 PySem.F.plainAttrs_list PySem.F.slot_list_reverse PySem.F.type_list_reverse mt_reverse (pv 5)))))))
            pss_nil)
        (pss_one
          (ps_if (pt_cmpR op_eq (pv 4) pe_int (nomark _))
            (pss_cons
              (ps_set (i := 6) sc_law_shows.nd rfl (.inl rfl) (pe_callB (call_lenOwn T.cl_Book T.me_Book_len (ok_Book_len T) hr T.b_Book_len) (by rfl) T.m_len (by decide +kernel) (pa_cons (pv 1) pa_nil)))
            (pss_one
              (ps_if (pt_cmpR op_ne (pv 6) (pe_callB call_len_seq (by rfl) T.m_len (by decide +kernel) (pa_cons (pv 3) pa_nil)) (nomark _))
                (pss_one
                  (ps_ret pe_bl))
                pss_nil)))
            pss_nil)))))
    (pss_one
      (ps_ret pe_bl))), ?_⟩
    have tfew := ok.few
    refine ⟨_, rfl, d, g, 3, rfl, hD, by decide, fun p os H1 s1 fp ep n1 n2 oin ol ond => ⟨_, rfl, ⟨_, .of ep⟩, ?_⟩⟩
    refine for_list (xs := os.map V.int) (fun i σ H' => Std H1 H' d g ∧ ∃ x4 x5 x6, σ = [some (.ref d), some (.ref b), some (.ref t), some (.ref r), x4, x5, x6, none, none]) ⟨Std.refl s1.dk, none, none, none, rfl⟩ (fun i σ H' _ h => .of (h.1.kd _ _ ep n1 n2)) ?_ ?_
    · rintro i v σ H2 hi ⟨s2, x4, x5, x6, rfl⟩
      rw [List.getElem?_map] at hi
      obtain ⟨o, _, rfl⟩ := Option.map_eq_some_iff.mp hi
      have s02 := s1.trans s2
      -- the tasks
      refine ⟨fun σ' H' => Std H1 H' d g ∧ ∃ x5, σ' = [some (.ref d), some (.ref b), some (.ref t), some (.ref r), some (.int o), x5, x6, none, none], ⟨_, rfl, rfl, _, rfl, ite2 (fun c => ?_) (fun c => ⟨s2, _, rfl⟩)⟩, ?_⟩
      · obtain ⟨dx, bt, br, hb, hbt, hbr⟩ := hB.keep hD s02.kd
        have lt2 := lt.keep s02.kd
        refine ⟨_, rfl, b, dx, _, rfl, hb, b, dx, bt, br, bt, _, rfl, hb, fl_t bt br, .of hbt.at_, fun U hU => ?_⟩
        have dU := s2.dk.new hU
        have fU := s2.free hU
        have sU := same_upd (o := .lst (ts.map V.str)) hU
        have eU : (upd H2 U (.lst (ts.map V.str))) U = some (.lst (ts.map V.str)) := upd_same
        have s3 := s2.new (o := .lst (ts.map V.str)) hU
        have lt3 := lt2.keep (Same.kd sU)
        generalize upd H2 U (.lst (ts.map V.str)) = H3 at eU s3 lt3 ⊢
        refine ⟨_, rfl, _, _, _, _, true, rfl, .ty "list", .base (.lst eU), kit_ty (by decide +kernel), _, rfl, _, rfl, _, rfl, tdata ts, tdata ts, .lst (.of eU) dp_strs, .lst (.of lt3.at_) dp_strs, tdata_ok ok, tdata_ok ok, _, rfl, iteEq (SeqAt.eqv_refl _ (SeqAt.canLay_of_shaped (tdata_ok ok))) ?_⟩
        refine ⟨_, rfl, U, rfl, ⟨_, .of eU⟩, fun D hDn => ?_⟩
        refine lc_list (xs := ts.map V.str) (fun i H' => i ≤ ts.length ∧ H' D = some (.lst ((List.replicate i true).map V.bl)) ∧ Same H3 H') ⟨Nat.zero_le _, upd_same, same_upd hDn⟩ (fun i H' _ h => .of (h.2.2 _ _ eU)) ?_ ?_
        · rintro i v H4 hi ⟨il, eD, sm⟩
          have hil := (List.getElem?_eq_some_iff.mp hi).1
          rw [List.length_map] at hil
          rw [List.getElem?_map] at hi
          obtain ⟨z, _, rfl⟩ := Option.map_eq_some_iff.mp hi
          refine ⟨rfl, _, rfl, _, _, _, _, true, rfl, .ty "str", .base (.str z), kit_ty (by decide +kernel), (List.replicate i true).map V.bl, eD, ?_, hil, ?_, fun b o e => ?_⟩
          · rw [List.length_map, List.length_replicate]; exact small1000 (by omega)
          · rw [upd_same, List.replicate_succ', List.map_append]; rfl
          · rw [upd_ne (ne_of_none e hDn)]; exact sm b o e
        · rintro H4 ⟨_, eD, sm⟩
          refine ⟨D, List.replicate (ts.map V.str).length true, rfl, .of eD, _, rfl, iteEq (all_true _) ?_⟩
          have s4 := s3.draw (s3.dk.same sm) (Same.kd sm)
          have eU4 := sm _ _ eU
          -- told[..] = 'other', told.append('more')
          refine ⟨_, rfl, _, rfl, _, rfl, U, _, rfl, .inl (.of eU4), d, g, _, rfl, s4.dk, ?_, ?_, fun q H5 q0 q1 hD5 k5 => ?_⟩
          · rw [List.length_map]
            have := List.length_pos_iff.mpr ok.ne
            omega
          · rw [List.length_map]; exact small_log (by omega)
          rw [List.length_map] at q1
          obtain ⟨q, rfl⟩ := Int.eq_ofNat_of_zero_le q0
          have eU5 := k5 _ _ eU4 dU.1 dU.2
          have s5 := s4.draw hD5 k5
          refine ⟨U, ts.map V.str, _, q, rfl, rfl, eU5, ixN_nat (by rw [List.length_map]; omega), ?_⟩
          refine ⟨_, rfl, .inl ⟨rfl, _, .of upd_same⟩, U, _, _, rfl, rfl, upd_same, ?_, ?_, _, rfl⟩
          · rw [List.length_set, List.length_map]; exact small1000 (by omega)
          · exact (s5.mut fU dU.1 dU.2).mut fU dU.1 dU.2
      clear s02 s2
      clear x5 x4 H2
      rintro σ H2 ⟨s2, x5, rfl⟩
      have s02 := s1.trans s2
      -- the rules
      refine ⟨fun σ' H' => Std H1 H' d g ∧ ∃ x5, σ' = [some (.ref d), some (.ref b), some (.ref t), some (.ref r), some (.int o), x5, x6, none, none], ⟨_, rfl, rfl, _, rfl, ite2 (fun c => ?_) (fun c => ⟨s2, _, rfl⟩)⟩, ?_⟩
      · obtain ⟨dx, bt, br, hb, hbt, as, hbr, rls⟩ := hB.keep hD s02.kd
        obtain ⟨as2, lr2, rls2⟩ := hR.keep hD s02.kd
        have alen := rls.len
        refine ⟨_, rfl, b, dx, _, rfl, hb, b, dx, bt, br, br, _, rfl, hb, fl_r bt br, .of hbr.at_, fun U hU => ?_⟩
        have dU := s2.dk.new hU
        have fU := s2.free hU
        have sU := same_upd (o := .lst (as.map V.ref)) hU
        have eU : (upd H2 U (.lst (as.map V.ref))) U = some (.lst (as.map V.ref)) := upd_same
        have s3 := s2.new (o := .lst (as.map V.ref)) hU
        have lr3 := lr2.keep (Same.kd sU)
        have rls3 := rls.keep (Same.tk sU)
        have rls23 := rls2.keep (Same.tk sU)
        generalize upd H2 U (.lst (as.map V.ref)) = H3 at eU s3 lr3 rls3 rls23 ⊢
        have okd := rsdata_ok ok rls3.all
        refine ⟨_, rfl, _, _, _, _, true, rfl, .ty "list", .base (.lst eU), kit_ty (by decide +kernel), _, rfl, _, rfl, _, rfl, rsdata ls, rsdata ls, .lst (.of eU) rls3.dp, .lst (.of lr3.at_) rls23.dp, okd, okd, _, rfl, iteEq (SeqAt.eqv_refl _ (SeqAt.canLay_of_shaped okd)) ?_⟩
        refine ⟨_, rfl, U, rfl, ⟨_, .of eU⟩, fun D hDn => ?_⟩
        refine lc_list (xs := as.map V.ref) (fun i H' => i ≤ as.length ∧ H' D = some (.lst ((List.replicate i true).map V.bl)) ∧ Same H3 H') ⟨Nat.zero_le _, upd_same, same_upd hDn⟩ (fun i H' _ h => .of (h.2.2 _ _ eU)) ?_ ?_
        · rintro i v H4 hi ⟨il, eD, sm⟩
          have hil := (List.getElem?_eq_some_iff.mp hi).1
          rw [List.length_map] at hil
          rw [List.getElem?_map] at hi
          obtain ⟨a, ha, rfl⟩ := Option.map_eq_some_iff.mp hi
          obtain ⟨l, _, ea, _⟩ := rls3.at ha
          refine ⟨rfl, _, rfl, _, _, _, _, true, rfl, .ty "tuple", .base (.tup (sm _ _ ea)), kit_ty (by decide +kernel), (List.replicate i true).map V.bl, eD, ?_, hil, ?_, fun b o e => ?_⟩
          · rw [List.length_map, List.length_replicate]; exact small1000 (by omega)
          · rw [upd_same, List.replicate_succ', List.map_append]; rfl
          · rw [upd_ne (ne_of_none e hDn)]; exact sm b o e
        · rintro H4 ⟨_, eD, sm⟩
          refine ⟨D, List.replicate (as.map V.ref).length true, rfl, .of eD, _, rfl, iteEq (all_true _) ?_⟩
          have s4 := s3.draw (s3.dk.same sm) (Same.kd sm)
          have eU4 := sm _ _ eU
          -- told.insert(..), told.reverse()
          refine ⟨_, rfl, .inl ⟨rfl, _, .of eU4⟩, _, rfl, _, rfl, U, _, rfl, .inl (.of eU4), _, _, rfl, rfl, d, g, _, rfl, s4.dk, ?_, ?_, fun q H5 q0 q1 hD5 k5 => ⟨(by show 2 ≤ sizeLine; decide), fun N hN => ?_⟩⟩
          · show (0 : Int) < ((as.map V.ref).length : Int) + 1
            omega
          · refine small_log2 ?_
            show (((as.map V.ref).length : Int) + 1).natAbs < 2048
            rw [List.length_map]; omega
          have eU5 := k5 _ _ eU4 dU.1 dU.2
          have s5 := s4.draw hD5 k5
          have eU6 := same_upd (o := .tup [.str ("first" : Str), .str ("more" : Str)]) hN _ _ eU5
          have s6 := s5.new (o := .tup [.str ("first" : Str), .str ("more" : Str)]) hN
          refine ⟨U, as.map V.ref, q, .ref N, rfl, rfl, eU6, ?_, q0, ?_, ?_⟩
          · rw [List.length_map]; exact small1000 (by omega)
          · have : q < ((as.map V.ref).length : Int) + 1 := q1
            rw [List.length_map] at this
            omega
          refine ⟨_, rfl, .inl ⟨rfl, _, .of upd_same⟩, U, _, rfl, rfl, upd_same, ?_, _, rfl⟩
          exact (s6.mut fU dU.1 dU.2).mut fU dU.1 dU.2
      clear s02 s2
      clear x5 H2
      rintro σ H2 ⟨s2, x5, rfl⟩
      have s02 := s1.trans s2
      -- how many
      refine ⟨_, rfl, rfl, _, rfl, ite2 (fun c => ?_) (fun c => ⟨s2, _, _, _, rfl⟩)⟩
      obtain ⟨dx, bt, br, hb, hbt, as, hbr, rls⟩ := hB.keep hD s02.kd
      obtain ⟨as2, lr2, rls2⟩ := hR.keep hD s02.kd
      refine ⟨_, rfl, b, dx, _, rfl, hb, b, dx, bt, br, _, rfl, hb, .of hbr.at_, _, rfl, by omega, ?_, ?_⟩
      · rw [List.length_map, rls.len]; omega
      refine ⟨_, rfl, _, rfl, r, _, rfl, .inl (.of lr2.at_), rfl, _, rfl, iteNS ?_ ⟨s2, _, _, _, rfl⟩⟩
      rw [List.length_map, List.length_map, rls.len, rls2.len]
    · rintro σ H2 ⟨s2, _⟩
      exact k H2 (s1.trans s2)
theorem Std.same {H0 H1 H2 : Hp} {d g : Addr} (s : Std H0 H1 d g) (t : Same H1 H2) : Std H0 H2 d g := ⟨s.dk.same t, s.kd.trans (Same.kd t)⟩
theorem RuleOk.more {ts us l : List Str} (s : ∀ z ∈ ts, z ∈ us) (h : RuleOk ts l) : RuleOk us l := by
  rcases h with ⟨k, x, h1, h2, rfl⟩ | ⟨k, x, y, h1, h2, h3, h4, rfl⟩
  · exact .inl ⟨k, x, h1, s _ h2, rfl⟩
  · exact .inr ⟨k, x, y, h1, s _ h2, s _ h3, h4, rfl⟩
/-! ### words -/
/-! ### words that are no tasks, tuples of words -/
def Wo (z : Str) : Prop := ∀ c ∈ z.cps.toList, c < 1000
theorem Wo.ok {z : Str} (h : Wo z) : PyData.canLay0 (.str z) = true := by
  simp only [PyData.canLay0, PyData.strOk, Array.all_eq_true, decide_eq_true_eq]
  intro i hi
  have hm : z.cps[i] ∈ z.cps.toList := by simp
  have := h _ hm
  omega
theorem Wo.cutT {z : Str} (h : Wo z) (i : Nat) : Wo (cutS z none (some (i : Int))) := fun c hc => h c (by rw [l_cutT] at hc; exact List.mem_of_mem_take hc)
theorem Wo.cutD {z : Str} (h : Wo z) (i : Nat) : Wo (cutS z (some (i : Int)) none) := fun c hc => h c (by rw [l_cutD] at hc; exact List.mem_of_mem_drop hc)
theorem Wo.app {x y : Str} (h : Wo x) (k : Wo y) : Wo (x ++ y) := fun c hc => by
  rw [l_app] at hc
  rcases List.mem_append.mp hc with a | a
  · exact h c a
  · exact k c a
theorem Nm.wo {z : Str} (h : Nm z) : Wo z := fun c hc => by
  have := h.low c hc
  omega
theorem cutV_some {l : List Str} (lo hi : Option Int) : ∃ m : List Str, cutV (l.map V.str) lo hi = m.map V.str ∧ m.length ≤ l.length ∧ ∀ z ∈ m, z ∈ l := by
  refine ⟨(l.drop (HT.sIx l.length 0 lo)).take (HT.sIx l.length l.length hi - HT.sIx l.length 0 lo), ?_, ?_, fun z hz => List.mem_of_mem_drop (List.mem_of_mem_take hz)⟩
  · unfold cutV
    rw [List.length_map, List.map_take, List.map_drop]
  · rw [List.length_take, List.length_drop]
    omega
def sgs : Str := " !\"#$&'()*+,-./0123456789:;<=>?@ABCDEFGHIJKLMNOPQRSTUVWXYZ[\\]^_`abcdefghijklmnopqrstuvwxyz{|}~"
theorem sgs_low : Wo sgs := by unfold Wo; decide +kernel
theorem sgs_len : sgs.cps.toList.length = 94 := by decide +kernel
theorem sgs_at {r : Nat} (h : r < 94) : ∃ c, sgs.cps.toList[r]? = some c ∧ c < 1000 := by
  have h2 : r < sgs.cps.toList.length := by rw [sgs_len]; exact h
  exact ⟨_, List.getElem?_eq_getElem h2, sgs_low _ (List.getElem_mem h2)⟩
theorem sgs_line : sgs.length ≤ sizeLine := by
  rw [len_l, sgs_len]
  decide
theorem Wo.one {c : Nat} (h : c < 1000) : Wo (one c) := fun x hx => by
  have : x = c := by simpa [K03.one] using hx
  omega
theorem Wo.join {cs : List Nat} (h : ∀ c ∈ cs, c < 1000) : Wo (Txt.join ("" : Str) (cs.map K03.one)) := fun c hc => by
  rw [l_join] at hc
  exact h c hc
/-- [signs[draw(len(signs))] for .. in range(n)] -/
theorem lc_signs {σ : L2.St} {H : Hp} {j : Nat} {d g D : Addr} {n : Nat} {Qd : Hp → Prop} (hn : n ≤ 1000) (s0 : σ[0]? = some (some (.ref d))) (s2 : σ[2]? = some (some (.str sgs))) (j0 : j ≠ 0) (j2 : j ≠ 2) (hD : Deck H d g) (nD : H D = none)
    {tl : TE} (ht : ∀ (σ' : L2.St) (H' : Hp) (Q : VK), σ'[2]? = some (some (.str sgs)) → Q (.int 94) H' → tl σ' H' Q)
    (q : ∀ (H' : Hp) (cs : List Nat), Deck H' d g → Kd d g H H' → H' D = some (.lst ((cs.map one).map V.str)) → cs.length = n → (∀ c ∈ cs, c < 1000) → Qd H') :
    ∃ W : Nat → Nat → Hp → Prop, (∃ m, W 0 m (upd H D (.lst []))) ∧ ∀ i m H, W i m H →
      ((Itr 0 n).stop i H ∧ Qd H) ∨ ((Itr 0 n).go i H ∧ ∃ Nx : Hp → Prop, (∀ H', Nx H' → ∃ m', m' < m ∧ W (i + 1) m' H') ∧ ∀ x H', (Itr 0 n).yld i H x H' → gName j x (wipe σ [j]) H' fun σ2 H2 => wipe σ2 [j] = wipe σ [j] ∧ tYes σ2 H2 fun b H3 =>
        if b = true then (tOp rIxS (tVar 2) (tCall sp_draw [] E0 (tCons (tVar 0) (tCons tl tNil)))) σ2 H3 fun y H4 => ∃ acc, H4 D = some (.lst acc) ∧ acc.length < sizeLine ∧ Nx (upd H4 D (.lst (acc ++ [y]))) else Nx H3) := by
  have nD2 := hD.new nD
  refine lc_range (lo := 0) (n := n) (fun i H' => ∃ cs : List Nat, Deck H' d g ∧ Kd d g H H' ∧ H' D = some (.lst ((cs.map one).map V.str)) ∧ cs.length = i ∧ ∀ c ∈ cs, c < 1000) ?_ ?_ ?_
  · exact ⟨[], hD.same (same_upd nD), Same.kd (same_upd nD), upd_same, rfl, fun _ h => absurd h List.not_mem_nil⟩
  · rintro i H1 hi ⟨cs, hD1, k1, eD, hl, low⟩
    have w : wipe ((wipe σ [j]).set j (some (.int (0 + (i : Int))))) [j] = wipe σ [j] := by
      show (((σ.set j none).set j (some (.int (0 + (i : Int))))).set j none) = σ.set j none
      rw [List.set_set, List.set_set]
    have t0 : ((wipe σ [j]).set j (some (.int (0 + (i : Int)))))[0]? = some (some (.ref d)) := by
      show ((σ.set j none).set j _)[0]? = _
      rw [List.getElem?_set_ne j0, List.getElem?_set_ne j0]
      exact s0
    have t2 : ((wipe σ [j]).set j (some (.int (0 + (i : Int)))))[2]? = some (some (.str sgs)) := by
      show ((σ.set j none).set j _)[2]? = _
      rw [List.getElem?_set_ne j2, List.getElem?_set_ne j2]
      exact s2
    refine ⟨w, _, t2, _, t0, ht _ _ _ t2 ⟨d, g, 94, rfl, hD1, by decide, by decide +kernel, fun r H2 r0 r1 hD2 k2 => ?_⟩⟩
    obtain ⟨m, rfl⟩ := Int.eq_ofNat_of_zero_le r0
    obtain ⟨c, ec, lc⟩ := sgs_at (r := m) (by omega)
    refine ⟨sgs, m, c, rfl, rfl, sgs_line, atI_nat ec, (cs.map one).map V.str, k2 _ _ eD nD2.1 nD2.2, ?_, cs ++ [c], ?_, ?_, ?_, ?_, ?_⟩
    · rw [List.length_map, List.length_map]; exact small1000 (by omega)
    · obtain ⟨gs, a, mm, h1, h2, h3⟩ := hD2
      exact ⟨gs, a, mm, by rw [upd_ne nD2.1.symm]; exact h1, by rw [upd_ne nD2.2.symm]; exact h2, h3⟩
    · intro b o e n1 n2
      rw [upd_ne (ne_of_none e nD)]
      exact k2 b o (k1 b o e n1 n2) n1 n2
    · rw [upd_same, List.map_append, List.map_append]; rfl
    · rw [List.length_append, hl]; rfl
    · intro c hc
      rcases List.mem_append.mp hc with h | h
      · exact low c h
      · have := List.mem_singleton.mp h
        omega
  · rintro H1 ⟨cs, hD1, k1, eD, hl, low⟩
    exact q H1 cs hD1 k1 eD hl low
def sp_strange : Sp := fun vs H Q _ => ∃ (d g t : Addr) (ts : List Str), vs = [.ref d, .ref t] ∧ Deck H d g ∧ Lat H d g t (ts.map V.str) ∧ TasksOk ts ∧ ∀ z H', Std H H' d g → Wo z → z.length ≤ 200 → Q (.str z) H'
theorem ok_law_strange (T : Tx K w mg) : FnOk P w K mg base CX0 2 T.f_law_strange T.d_law_strange ["deck", "task_list"] sp_strange := by
  refine T.F_law_strange.ok sc_law_strange (fun vs H Q E h => ?_) (fun cdv A outer s H vs Q E hr h => ?_)
  · obtain ⟨d, g, t, ts, rfl, _⟩ := h
    rfl
  · obtain ⟨d, g, t, ts, rfl, hD, lt0, ok, k⟩ := h
    refine ⟨_,
    (pss_cons
      (ps_set (i := 2) sc_law_strange.nd rfl (.inr rfl) pe_str)
    (pss_cons
      (ps_set (i := 3) sc_law_strange.nd rfl (.inl rfl) (pe_call (ok_law_draw T) hr (by rfl) T.g_law_draw T.F_law_draw.kp T.b_law_draw .nil pass0 (pa_cons (pv 0) (pa_cons pe_int pa_nil))))
    (pss_cons
      (ps_set (i := 4) sc_law_strange.nd rfl (.inl rfl) (pe_ix ix_list (pv 1) (pe_call (ok_law_draw T) hr (by rfl) T.g_law_draw T.F_law_draw.kp T.b_law_draw .nil pass0 (pa_cons (pv 0) (pa_cons (pe_callB call_len_seq (by rfl) T.m_len (by decide +kernel) (pa_cons (pv 1) pa_nil)) pa_nil))) (fun _ _ => rfl)))
    (pss_cons
      (ps_set (i := 5) sc_law_strange.nd rfl (.inl rfl) (pe_call (ok_law_draw T) hr (by rfl) T.g_law_draw T.F_law_draw.kp T.b_law_draw .nil pass0 (pa_cons (pv 0) (pa_cons (pe_callB call_len_str (by rfl) T.m_len (by decide +kernel) (pa_cons (pv 4) pa_nil)) pa_nil))))
    (C8.pss_cut
      (ps_if (pt_cmpR op_eq (pv 3) pe_int (nomark _))
        (pss_one
          (ps_set (i := 4) sc_law_strange.nd rfl (.inl rfl) (pe_op op_add_str (pe_op op_add_str (pe_slice sl_str (pv 4) po_none (po_some (pv 5))) (pe_ix ix_str (pv 2) (pe_call (ok_law_draw T) hr (by rfl) T.g_law_draw T.F_law_draw.kp T.b_law_draw .nil pass0 (pa_cons (pv 0) (pa_cons (pe_callB call_len_str (by rfl) T.m_len (by decide +kernel) (pa_cons (pv 2) pa_nil)) pa_nil))) (fun _ _ => rfl))) (pe_slice sl_str (pv 4) (po_some (pe_op op_add (pv 5) pe_int)) po_none))))
        pss_nil)
    (C8.pss_cut
      (ps_if (pt_cmpR op_eq (pv 3) pe_int (nomark _))
        (pss_one
          (ps_set (i := 4) sc_law_strange.nd rfl (.inl rfl) (pe_op op_add_str (pe_slice sl_str (pv 4) po_none (po_some (pv 5))) (pe_slice sl_str (pv 4) (po_some (pe_op op_add (pv 5) pe_int)) po_none))))
        pss_nil)
    (C8.pss_cut
      (ps_if (pt_cmpR op_eq (pv 3) pe_int (nomark _))
        (pss_one
          (ps_set (i := 4) sc_law_strange.nd rfl (.inl rfl) (pe_join pe_str (pe_lc (own := [("k", 6)]) (g := gName 6) rfl sc_law_strange.nd (pi_range1 (by rfl) T.m_range (pa_cons (pe_call (ok_law_draw T) hr (by rfl) T.g_law_draw T.F_law_draw.kp T.b_law_draw .nil pass0 (pa_cons (pv 0) (pa_cons pe_int pa_nil))) pa_nil)) (blkOk_by (N := ["deck", "task_list", "signs", "way", "word", "at", "k"]) (sc := defScope s_law_strange) (own := [("k", 6)]) (by decide +kernel)) (fun _ _ _ _ _ => (pg_name (i := 6) sc_law_strange.nd rfl (.inl rfl))) (fun _ _ _ _ _ => pts_nil) (fun _ _ _ _ _ => (pe_ix ix_str (pv 2) (pe_call (ok_law_draw T) hr (by rfl) T.g_law_draw T.F_law_draw.kp T.b_law_draw .nil pass0 (pa_cons (pv 0) (pa_cons (pe_callB call_len_str (by rfl) T.m_len (by decide +kernel) (pa_cons (pv 2) pa_nil)) pa_nil))) (fun _ _ => rfl)))))))
        pss_nil)
    (pss_cons
      (ps_if (pt_cmpR op_in_seq (pv 4) (pv 1) (by rfl))
        (pss_one
          (ps_ret pe_str))
        pss_nil)
    (pss_one
      (ps_ret (pv 4))))))))))), ?_⟩
    have tne : 0 < ts.length := List.length_pos_iff.mpr ok.ne
    have tfew := ok.few
    refine ⟨_, rfl, d, g, 3, rfl, hD, by decide, by decide +kernel, fun way H1 w0 w1 hD1 k1 => ?_⟩
    have s1 := (Std.refl hD).draw hD1 k1
    refine ⟨_, rfl, _, rfl, _, rfl, t, _, rfl, .inl (.of (lt0.keep s1.kd).at_), d, g, _, rfl, hD1, ?_, ?_, fun p H2 p0 p1 hD2 k2 => ?_⟩
    · show (0 : Int) < ((ts.map V.str).length : Int)
      rw [List.length_map]; omega
    · exact small_log (by show (((ts.map V.str).length : Nat) : Int).natAbs < 1024; rw [List.length_map]; omega)
    have p2 : p < ((ts.map V.str).length : Int) := p1
    rw [List.length_map] at p2
    obtain ⟨p, rfl⟩ := Int.eq_ofNat_of_zero_le p0
    have s2 := s1.draw hD2 k2
    have hp : p < ts.length := by omega
    refine ⟨t, _, _, V.str ts[p], rfl, rfl, .of (lt0.keep s2.kd).at_, atI_nat (by rw [List.getElem?_map, List.getElem?_eq_getElem hp]; rfl), ?_⟩
    have nz := ok.nm _ (List.getElem_mem hp)
    generalize ts[p] = z at nz
    have zf := nz.few
    have zp := nz.pos
    refine ⟨_, rfl, _, rfl, _, rfl, str_line (by omega), d, g, _, rfl, hD2, ?_, ?_, fun a H3 a0 a1 hD3 k3 => ?_⟩
    · show (0 : Int) < (z.length : Int)
      omega
    · exact small_log (by show ((z.length : Nat) : Int).natAbs < 1024; omega)
    have a2 : a < (z.length : Int) := a1
    obtain ⟨a, rfl⟩ := Int.eq_ofNat_of_zero_le a0
    have s3 := s2.draw hD3 k3
    have zw := nz.wo
    have cT := cutS_length z none (some (a : Int))
    have cD := cutS_length z (some ((a : Int) + 1)) none
    have wD : Wo (cutS z (some ((a : Int) + 1)) none) := by
      rw [show (a : Int) + 1 = ((a + 1 : Nat) : Int) by omega]
      exact zw.cutD (a + 1)
    have wT := zw.cutT a
    have sl : (sgs.length : Int) = 94 := by rw [len_l, sgs_len]; rfl
    have sl0 : (0 : Int) < (sgs.length : Int) := by omega
    have sl1 : ((sgs.length : Nat) : Int).natAbs.log2 < 9000 := small_log (by omega)
    refine ⟨fun σ' H' => ∃ z, σ' = [some (.ref d), some (.ref t), some (.str sgs), some (.int way), some (.str z), some (.int (a : Int)), none] ∧ Std H H' d g ∧ Wo z ∧ z.length ≤ 100, ?_, ?_⟩
    · refine ⟨_, rfl, rfl, _, rfl, ite2 (fun c => ?_) (fun c => ⟨z, rfl, s3, zw, by omega⟩)⟩
      refine ⟨_, rfl, _, rfl, _, rfl, z, rfl, str_line (by omega), _, rfl, _, rfl, _, rfl, _, rfl, sgs_line, d, g, _, rfl, s3.dk, sl0, sl1, fun r H4 r0 r1 hD4 k4 => ?_⟩
      obtain ⟨r, rfl⟩ := Int.eq_ofNat_of_zero_le r0
      obtain ⟨c, ec, lc⟩ := sgs_at (r := r) (by have : (r : Int) < (sgs.length : Int) := r1; omega)
      have wc := Wo.one lc
      refine ⟨sgs, r, c, rfl, rfl, sgs_line, atI_nat ec, _, _, rfl, rfl, str_line (by show _ + 1 ≤ 1000; omega), _, rfl, _, rfl, _, _, rfl, rfl, _, rfl, z, rfl, str_line (by omega), _, _, rfl, rfl, str_line ?_, _, rfl, s3.draw hD4 k4, (wT.app wc).app wD, ?_⟩
      · rw [len_l, l_app, List.length_append, ← len_l, ← len_l]
        show _ + 1 + _ ≤ 1000
        omega
      · rw [len_l, l_app, l_app, List.length_append, List.length_append, ← len_l, ← len_l, ← len_l]
        show _ + 1 + _ ≤ 100
        omega
    clear wD wT zw cT cD nz zp zf sl sl0 sl1
    have sl : (sgs.length : Int) = 94 := by rw [len_l, sgs_len]; rfl
    rintro σ H4 ⟨z, rfl, s4, zw, zl⟩
    refine ⟨fun σ' H' => ∃ z, σ' = [some (.ref d), some (.ref t), some (.str sgs), some (.int way), some (.str z), some (.int (a : Int)), none] ∧ Std H H' d g ∧ Wo z ∧ z.length ≤ 200, ?_, ?_⟩
    · refine ⟨_, rfl, rfl, _, rfl, ite2 (fun c => ?_) (fun c => ⟨z, rfl, s4, zw, by omega⟩)⟩
      have cT := cutS_length z none (some (a : Int))
      have cD := cutS_length z (some ((a : Int) + 1)) none
      have wD : Wo (cutS z (some ((a : Int) + 1)) none) := by
        rw [show (a : Int) + 1 = ((a + 1 : Nat) : Int) by omega]
        exact zw.cutD (a + 1)
      refine ⟨_, rfl, _, rfl, _, rfl, z, rfl, str_line (by omega), _, rfl, _, rfl, _, _, rfl, rfl, _, rfl, z, rfl, str_line (by omega), _, _, rfl, rfl, str_line (by omega), _, rfl, s4, (zw.cutT a).app wD, ?_⟩
      rw [len_l, l_app, List.length_append, ← len_l, ← len_l]
      omega
    rintro σ H5 ⟨z, rfl, s5, zw, zl⟩
    refine ⟨fun σ' H' => ∃ z, σ' = [some (.ref d), some (.ref t), some (.str sgs), some (.int way), some (.str z), some (.int (a : Int)), none] ∧ Std H H' d g ∧ Wo z ∧ z.length ≤ 200, ?_, ?_⟩
    · refine ⟨_, rfl, rfl, _, rfl, ite2 (fun c => ?_) (fun c => ⟨z, rfl, s5, zw, zl⟩)⟩
      refine ⟨⟨_, rfl⟩, _, rfl, d, g, 101, rfl, s5.dk, by decide, by decide +kernel, fun m H6 m0 m1 hD6 k6 => ⟨_, rfl, by omega, by omega, fun J hJ => ?_⟩⟩
      refine lc_signs (n := m.toNat) (by omega) rfl rfl (by decide) (by decide) hD6 hJ (fun σ' H' Q h2 hq => ⟨_, h2, sgs, rfl, sgs_line, by rw [sl]; exact hq⟩) fun H7 cs hD7 k7 eJ cl low => ?_
      exact ⟨_, J, cs.map one, rfl, rfl, .inl (.of eJ), join_room cs (by omega), _, rfl, (s5.draw hD6 k6).draw hD7 k7, Wo.join low, by rw [len_l, l_join]; omega⟩
    rintro σ H6 ⟨z, rfl, s6, zw, zl⟩
    refine ⟨_, rfl, _, rfl, t, _, rfl, .inl (.of (lt0.keep s6.kd).at_), rfl, flat_strs _, _, rfl, ite2 (fun c => k _ _ s6 ?_ ?_) (fun c => ⟨_, rfl, k _ _ s6 zw zl⟩)⟩
    · unfold Wo
      decide +kernel
    · decide +kernel
def Wz (z : Str) : Prop := PyData.canLay0 (.str z) = true ∧ z.length ≤ 900
/-- a list of words of its own -/
structure Wl (H0 H' : Hp) (d g R : Addr) (l : List Str) (m n : Nat) : Prop where
  sd : Std H0 H' d g
  f0 : H0 R = none
  nd : R ≠ d
  ng : R ≠ g
  eR : H' R = some (.lst (l.map V.str))
  lo : m ≤ l.length
  hi : l.length ≤ n
  ok : ∀ z ∈ l, Wz z
theorem Wl.std {H0 H1 H2 : Hp} {d g R : Addr} {l : List Str} {m n : Nat} (h : Wl H0 H1 d g R l m n) (s : Std H1 H2 d g) : Wl H0 H2 d g R l m n := ⟨h.sd.trans s, h.f0, h.nd, h.ng, s.kd _ _ h.eR h.nd h.ng, h.lo, h.hi, h.ok⟩
theorem Wl.new {H0 H1 : Hp} {d g R : Addr} {l : List Str} {m n : Nat} (s : Std H0 H1 d g) (hR : H1 R = none) (lo : m ≤ l.length) (hi : l.length ≤ n) (ok : ∀ z ∈ l, Wz z) : Wl H0 (upd H1 R (.lst (l.map V.str))) d g R l m n :=
  ⟨s.new hR, s.free hR, (s.dk.new hR).1, (s.dk.new hR).2, upd_same, lo, hi, ok⟩
theorem Wl.put {H0 H1 : Hp} {d g R : Addr} {l l' : List Str} {m n m' n' : Nat} (h : Wl H0 H1 d g R l m n) (lo : m' ≤ l'.length) (hi : l'.length ≤ n') (ok : ∀ z ∈ l', Wz z) : Wl H0 (upd H1 R (.lst (l'.map V.str))) d g R l' m' n' :=
  ⟨h.sd.mut h.f0 h.nd h.ng, h.f0, h.nd, h.ng, upd_same, lo, hi, ok⟩
theorem Wl.wide {H0 H1 : Hp} {d g R : Addr} {l : List Str} {m n m' n' : Nat} (h : Wl H0 H1 d g R l m n) (a : m' ≤ m) (b : n ≤ n') : Wl H0 H1 d g R l m' n' := ⟨h.sd, h.f0, h.nd, h.ng, h.eR, Nat.le_trans a h.lo, Nat.le_trans h.hi b, h.ok⟩
theorem ok_set {l : List Str} {z : Str} (h : ∀ z ∈ l, Wz z) (hz : Wz z) (i : Nat) : ∀ y ∈ l.set i z, Wz y := fun y hy => by
  rcases List.mem_or_eq_of_mem_set hy with a | a
  · exact h y a
  · rw [a]; exact hz
theorem rule_len {ts l : List Str} (h : RuleOk ts l) : 2 ≤ l.length ∧ l.length ≤ 3 := by
  rcases h with ⟨k, x, h1, h2, rfl⟩ | ⟨k, x, y, h1, h2, h3, h4, rfl⟩
  · exact ⟨by simp, by simp⟩
  · exact ⟨by simp, by simp⟩
theorem all_ok {l : List Str} (h : (l.all fun z => PyData.canLay0 (.str z) && decide (z.length ≤ 900)) = true) : ∀ z ∈ l, Wz z := fun z hz => by
  have := List.all_eq_true.mp h z hz
  rw [Bool.and_eq_true, decide_eq_true_iff] at this
  exact this
theorem rule_wz {ts l : List Str} (ok : TasksOk ts) (h : RuleOk ts l) : ∀ z ∈ l, Wz z := fun z hz => by
  refine ⟨rule_ok ok h z hz, ?_⟩
  have kd : ∀ k ∈ two ++ six, k.length ≤ 900 := by decide +kernel
  have nm : ∀ y ∈ ts, y.length ≤ 900 := fun y hy => Nat.le_trans (ok.nm y hy).few (by decide)
  rcases h with ⟨k, x, h1, h2, rfl⟩ | ⟨k, x, y, h1, h2, h3, _, rfl⟩
  · simp only [List.mem_cons, List.not_mem_nil, or_false] at hz
    rcases hz with rfl | rfl
    · exact kd _ (List.mem_append_left _ h1)
    · exact nm _ h2
  · simp only [List.mem_cons, List.not_mem_nil, or_false] at hz
    rcases hz with rfl | rfl | rfl
    · exact kd _ (List.mem_append_right _ h1)
    · exact nm _ h2
    · exact nm _ h3
def kdx : List Str := ["", "Before", "befor", "before ", "FIRST", "lasts", "while"]
theorem kdx_ok : (kdx.all fun z => PyData.canLay0 (.str z) && decide (z.length ≤ 900)) = true := by decide +kernel
def kd8 : List Str := ["before", "upto", "same", "apart", "far", "next", "first", "last"]
theorem kd8_ok : (kd8.all fun z => PyData.canLay0 (.str z) && decide (z.length ≤ 900)) = true := by decide +kernel
def sx : List Str := ["before", "upto", "same", "apart", "far", "next"]
theorem sx_ok : (sx.all fun z => PyData.canLay0 (.str z) && decide (z.length ≤ 900)) = true := by decide +kernel
def sp_bad : Sp := fun vs H Q _ => ∃ (d g t : Addr) (ts : List Str), vs = [.ref d, .ref t] ∧ Deck H d g ∧ Lat H d g t (ts.map V.str) ∧ TasksOk ts ∧
  ∀ (a : Addr) (l : List Str) H', Std H H' d g → H' a = some (.tup (l.map V.str)) → (∀ z ∈ l, Wz z) → 1 ≤ l.length → l.length ≤ 8 → Q (.ref a) H'
theorem ok_law_bad_rule (T : Tx K w mg) : FnOk P w K mg base CX0 3 T.f_law_bad_rule T.d_law_bad_rule ["deck", "task_list"] sp_bad := by
  refine T.F_law_bad_rule.ok sc_law_bad_rule (fun vs H Q E h => ?_) (fun cdv A outer s H vs Q E hr h => ?_)
  · obtain ⟨d, g, t, ts, rfl, _⟩ := h
    rfl
  · obtain ⟨d, g, t, ts, rfl, hD, lt0, ok, k⟩ := h
    refine ⟨_,
    (pss_cons
      (ps_set (i := 2) sc_law_bad_rule.nd rfl (.inl rfl) (pe_callTy call_list_of (by rfl) T.m_list (by decide +kernel) (pa_cons (pe_call (ok_law_rule T) hr (by rfl) T.g_law_rule T.F_law_rule.kp T.b_law_rule .nil pass0 (pa_cons (pv 0) (pa_cons (pv 1) pa_nil))) pa_nil)))
    (pss_cons
      (ps_set (i := 3) sc_law_bad_rule.nd rfl (.inl rfl) (pe_call (ok_law_draw T) (hr.mono (by decide)) (by rfl) T.g_law_draw T.F_law_draw.kp T.b_law_draw .nil pass0 (pa_cons (pv 0) (pa_cons pe_int pa_nil))))
    (C8.pss_cut
      (ps_if (pt_cmpR op_in_seq (pv 3) (pe_tup (pa_cons pe_int (pa_cons pe_int pa_nil))) (by rfl))
        (pss_cons
          (ps_set (i := 4) sc_law_bad_rule.nd rfl (.inl rfl) (pe_ix ix_list (pe_lst (pa_cons pe_str (pa_cons pe_str (pa_cons pe_str (pa_cons pe_str (pa_cons pe_str (pa_cons pe_str (pa_cons pe_str (pa_cons (pe_ix ix_list (pv 1) pe_int (fun _ _ => rfl)) pa_nil))))))))) (pe_call (ok_law_draw T) (hr.mono (by decide)) (by rfl) T.g_law_draw T.F_law_draw.kp T.b_law_draw .nil pass0 (pa_cons (pv 0) (pa_cons pe_int pa_nil))) (fun _ _ => rfl)))
        (pss_one
          (ps_if (pt_cmpR op_notIn_seq (pv 4) (pe_tup (pa_cons pe_str (pa_cons pe_str (pa_cons pe_str (pa_cons pe_str (pa_cons pe_str (pa_cons pe_str (pa_cons pe_str (pa_cons pe_str pa_nil))))))))) (by rfl))
            (pss_one
              (ps_asg (pv 4) (pg_sub (pv 2) pe_int set_list)))
            pss_nil)))
        pss_nil)
    (C8.pss_cut
      (ps_if (pt_cmpR op_eq (pv 3) pe_int (nomark _))
        (pss_one
          (ps_for PassesOwn.never rfl (pi_range1 (by rfl) T.m_range (pa_cons (pe_op op_add pe_int (pe_call (ok_law_draw T) (hr.mono (by decide)) (by rfl) T.g_law_draw T.F_law_draw.kp T.b_law_draw .nil pass0 (pa_cons (pv 0) (pa_cons pe_int pa_nil)))) pa_nil)) (pg_name (i := 5) sc_law_bad_rule.nd rfl (.inl rfl))
            (pss_one
              (ps_expr (pe_bm PySem.F.plainAttrs_list PySem.F.slot_list_append PySem.F.type_list_append mt_append (pv 2) (pa_cons (pe_ix ix_list (pv 1) (pe_call (ok_law_draw T) (hr.mono (by decide)) (by rfl) T.g_law_draw T.F_law_draw.kp T.b_law_draw .nil pass0 (pa_cons (pv 0) (pa_cons (pe_callB call_len_seq (by rfl) T.m_len (by decide +kernel) (pa_cons (pv 1) pa_nil)) pa_nil))) (fun _ _ => rfl)) pa_nil))))))
        pss_nil)
    (C8.pss_cut
      (ps_if (pt_cmpR op_eq (pv 3) pe_int (nomark _))
        (pss_one
          (ps_expr (pe_bm0 PySem.F.plainAttrs_list PySem.F.slot_list_pop PySem.F.type_list_pop mt_pop (pv 2))))
        pss_nil)
    (C8.pss_cut
      (ps_if (pt_cmpR op_in_seq (pv 3) (pe_tup (pa_cons pe_int (pa_cons pe_int (pa_cons pe_int pa_nil)))) (by rfl))
        (pss_one
          (ps_asg (pe_call (ok_law_strange T) hr (by rfl) T.g_law_strange T.F_law_strange.kp T.b_law_strange .nil pass0 (pa_cons (pv 0) (pa_cons (pv 1) pa_nil))) (pg_sub (pv 2) (pe_op op_sub (pe_callB call_len_seq (by rfl) T.m_len (by decide +kernel) (pa_cons (pv 2) pa_nil)) pe_int) set_list)))
        pss_nil)
    (C8.pss_cut
      (ps_if (pt_cmpR op_in_seq (pv 3) (pe_tup (pa_cons pe_int (pa_cons pe_int pa_nil))) (by rfl))
        (pss_cons
          (ps_set (i := 2) sc_law_bad_rule.nd rfl (.inl rfl) (pe_lst (pa_cons pe_str (pa_cons (pe_ix ix_list (pv 2) pe_int (fun _ _ => rfl)) (pa_cons (pe_ix ix_list (pv 2) (pe_op op_sub (pe_callB call_len_seq (by rfl) T.m_len (by decide +kernel) (pa_cons (pv 2) pa_nil)) pe_int) (fun _ _ => rfl)) pa_nil)))))
        (pss_one
          (ps_asg (pe_call (ok_law_strange T) hr (by rfl) T.g_law_strange T.F_law_strange.kp T.b_law_strange .nil pass0 (pa_cons (pv 0) (pa_cons (pv 1) pa_nil))) (pg_sub (pv 2) pe_int set_list))))
        pss_nil)
    (C8.pss_cut
      (ps_if (pt_cmpR op_eq (pv 3) pe_int (nomark _))
        (pss_one
          (ps_set (i := 2) sc_law_bad_rule.nd rfl (.inl rfl) (pe_lst (pa_cons (pe_ix ix_list (pe_lst (pa_cons pe_str (pa_cons pe_str (pa_cons pe_str (pa_cons pe_str (pa_cons pe_str (pa_cons pe_str pa_nil))))))) (pe_call (ok_law_draw T) (hr.mono (by decide)) (by rfl) T.g_law_draw T.F_law_draw.kp T.b_law_draw .nil pass0 (pa_cons (pv 0) (pa_cons pe_int pa_nil))) (fun _ _ => rfl)) (pa_cons (pe_ix ix_list (pv 2) pe_int (fun _ _ => rfl)) (pa_cons (pe_ix ix_list (pv 2) pe_int (fun _ _ => rfl)) pa_nil))))))
        pss_nil)
    (C8.pss_cut
      (ps_if (pt_cmpR op_eq (pe_call (ok_law_draw T) (hr.mono (by decide)) (by rfl) T.g_law_draw T.F_law_draw.kp T.b_law_draw .nil pass0 (pa_cons (pv 0) (pa_cons pe_int pa_nil))) pe_int (nomark _))
        (pss_one
          (ps_set (i := 2) sc_law_bad_rule.nd rfl (.inl rfl) (pe_lst (pa_cons pe_str (pa_cons pe_str (pa_cons pe_str pa_nil))))))
        pss_nil)
    (pss_one
      (ps_ret (pe_callTy call_tuple_of (by rfl) T.m_tuple (by decide +kernel) (pa_cons (pv 2) pa_nil))))))))))))), ?_⟩
    have tne : 0 < ts.length := List.length_pos_iff.mpr ok.ne
    have tfew := ok.few
    have nok : ∀ z ∈ ts, Wz z := fun z hz => ⟨nm_ok (ok.nm z hz), Nat.le_trans (ok.nm z hz).few (by decide)⟩
    refine ⟨_, rfl, _, rfl, d, g, t, ts, rfl, hD, lt0, ok, fun a l H1 s1 fa ea rok => ⟨a, _, rfl, .inr (.of ea), fun R hR => ?_⟩⟩
    obtain ⟨l2, l3⟩ := rule_len rok
    have w1 : Wl H _ d g R l 2 3 := Wl.new s1 hR l2 l3 (rule_wz ok rok)
    generalize upd H1 R (.lst (l.map V.str)) = H2 at w1
    refine ⟨_, rfl, d, g, 8, rfl, w1.sd.dk, by decide, by decide +kernel, fun way H3 w0 w8 hD3 k3 => ?_⟩
    have w3 := w1.std ((Std.refl w1.sd.dk).draw hD3 k3)
    clear w1 k3 hD3 l2 l3 rok ea fa s1 hR
    refine ⟨fun σ' H' => ∃ (l : List Str) (x4 : Option V), σ' = [some (.ref d), some (.ref t), some (.ref R), some (.int way), x4, none] ∧ Wl H H' d g R l 2 3, ?_, ?_⟩
    · refine ⟨_, rfl, (by show 2 ≤ sizeLine; decide), fun U hU => ⟨U, _, rfl, .inr (.of upd_same), rfl, rfl, _, rfl, ?_⟩⟩
      have w4 := w3.std ((Std.refl w3.sd.dk).new (o := .tup [.int 0, .int 6]) hU)
      refine ite2 (fun c => ?_) (fun c => ⟨l, none, rfl, w4⟩)
      generalize upd H3 U (.tup [.int 0, .int 6]) = H4 at w4
      have lt4 := lt0.keep w4.sd.kd
      refine ⟨_, rfl, t, _, _, V.str ts[0], rfl, rfl, .of lt4.at_, atI_nat (j := 0) (by rw [List.getElem?_map, List.getElem?_eq_getElem tne]; rfl), (by show 8 ≤ sizeLine; decide), fun L hL => ?_⟩
      have w5 := w4.std ((Std.refl w4.sd.dk).new (o := .lst ((kdx ++ [ts[0]]).map V.str)) hL)
      have lk : Lat (upd H4 L (.lst ((kdx ++ [ts[0]]).map V.str))) d g L ((kdx ++ [ts[0]]).map V.str) := Lat.new w4.sd.dk hL
      refine ⟨_, rfl, d, g, 8, rfl, w5.sd.dk, by decide, by decide +kernel, fun r H5 r0 r1 hD5 k5 => ?_⟩
      obtain ⟨r, rfl⟩ := Int.eq_ofNat_of_zero_le r0
      have w6 := w5.std ((Std.refl w5.sd.dk).draw hD5 k5)
      have hr8 : r < (kdx ++ [ts[0]]).length := by show r < 8; omega
      have okz : Wz (kdx ++ [ts[0]])[r] := by
        rcases List.mem_append.mp (List.getElem_mem hr8) with h | h
        · exact all_ok kdx_ok _ h
        · rw [List.mem_singleton.mp h]
          exact nok _ (List.getElem_mem tne)
      refine ⟨L, _, _, V.str (kdx ++ [ts[0]])[r], rfl, rfl, .of (lk.keep k5).at_, atI_nat (by rw [List.getElem?_map, List.getElem?_eq_getElem hr8]; rfl), ?_⟩
      generalize (kdx ++ [ts[0]])[r] = z at okz
      refine ⟨_, rfl, (by show 8 ≤ sizeLine; decide), fun U2 hU2 => ⟨U2, _, rfl, .inr (.of upd_same), rfl, flat_strs kd8, _, rfl, ?_⟩⟩
      have w7 := w6.std ((Std.refl w6.sd.dk).new (o := .tup (kd8.map V.str)) hU2)
      refine ite2 (fun c => ?_) (fun c => ⟨l, _, rfl, w7⟩)
      refine ⟨_, rfl, _, rfl, R, _, _, 0, rfl, rfl, w7.eR, ixN_nat (j := 0) (by rw [List.length_map]; exact Nat.lt_of_lt_of_le (by decide) w7.lo), l.set 0 z, _, rfl, ?_⟩
      rw [← List.map_set]
      exact w7.put (by rw [List.length_set]; exact w7.lo) (by rw [List.length_set]; exact w7.hi) (ok_set w7.ok okz 0)
    clear w3
    clear l
    rintro σ H4 ⟨l, x4, rfl, w4⟩
    refine ⟨fun σ' H' => ∃ (l : List Str) (x4 x5 : Option V), σ' = [some (.ref d), some (.ref t), some (.ref R), some (.int way), x4, x5] ∧ Wl H H' d g R l 2 8, ?_, ?_⟩
    · refine ⟨_, rfl, rfl, _, rfl, ite2 (fun c => ?_) (fun c => ⟨l, _, _, rfl, w4.wide (by omega) (by omega)⟩)⟩
      refine ⟨_, rfl, d, g, 5, rfl, w4.sd.dk, by decide, by decide +kernel, fun m H5 m0 m1 hD5 k5 => ⟨_, _, rfl, rfl, _, rfl, by omega, by omega, ?_⟩⟩
      have w5 := w4.std ((Std.refl w4.sd.dk).draw hD5 k5)
      refine for_range (n := (1 + m).toNat) (fun i σ H' => ∃ (l : List Str) (x5 : Option V), σ = [some (.ref d), some (.ref t), some (.ref R), some (.int way), x4, x5] ∧ Wl H H' d g R l 2 (3 + i)) ⟨l, _, rfl, w5⟩ ?_ ?_
      · rintro i σ H6 hi ⟨l, x5, rfl, w6⟩
        have lt6 := lt0.keep w6.sd.kd
        refine ⟨_, rfl, .inl ⟨rfl, _, .of w6.eR⟩, _, rfl, _, rfl, _, rfl, t, _, rfl, .inl (.of lt6.at_), d, g, _, rfl, w6.sd.dk, ?_, ?_, fun p H7 p0 p1 hD7 k7 => ?_⟩
        · show (0 : Int) < ((ts.map V.str).length : Int)
          rw [List.length_map]; omega
        · exact small_log (by show (((ts.map V.str).length : Nat) : Int).natAbs < 1024; rw [List.length_map]; omega)
        have p2 : p < ((ts.map V.str).length : Int) := p1
        rw [List.length_map] at p2
        obtain ⟨p, rfl⟩ := Int.eq_ofNat_of_zero_le p0
        have hp : p < ts.length := by omega
        have w7 := w6.std ((Std.refl w6.sd.dk).draw hD7 k7)
        refine ⟨t, _, _, V.str ts[p], rfl, rfl, .of (lt6.keep k7).at_, atI_nat (by rw [List.getElem?_map, List.getElem?_eq_getElem hp]; rfl), R, _, _, rfl, rfl, w7.eR, ?_, l ++ [ts[p]], _, rfl, ?_⟩
        · rw [List.length_map]; have := w7.hi; exact small1000 (by omega)
        · show Wl H (upd H7 R (.lst (l.map V.str ++ [V.str ts[p]]))) d g R (l ++ [ts[p]]) 2 (3 + (i + 1))
          rw [show l.map V.str ++ [V.str ts[p]] = (l ++ [ts[p]]).map V.str by rw [List.map_append]; rfl]
          refine w7.put ?_ ?_ ?_
          · rw [List.length_append]; have := w7.lo; omega
          · rw [List.length_append]; have := w7.hi; show _ + 1 ≤ _; omega
          · intro z hz
            rcases List.mem_append.mp hz with h | h
            · exact w7.ok z h
            · rw [List.mem_singleton.mp h]; exact nok _ (List.getElem_mem hp)
      · rintro σ H6 ⟨l, x5, rfl, w6⟩
        exact ⟨l, _, _, rfl, w6.wide (by omega) (by omega)⟩
    clear w4
    clear l x4 H4
    rintro σ H4 ⟨l, x4, x5, rfl, w4⟩
    refine ⟨fun σ' H' => ∃ (l : List Str), σ' = [some (.ref d), some (.ref t), some (.ref R), some (.int way), x4, x5] ∧ Wl H H' d g R l 1 8 ∧ (way ≠ 2 → 2 ≤ l.length), ?_, ?_⟩
    · refine ⟨_, rfl, rfl, _, rfl, ite2 (fun c => ?_) (fun c => ⟨l, rfl, w4.wide (by omega) (by omega), fun _ => w4.lo⟩)⟩
      have c2 : way = 2 := V.int.inj (of_decide_eq_true c)
      have ll := w4.lo
      have hl : l.length - 1 < l.length := by omega
      refine ⟨_, rfl, .inl ⟨rfl, _, .of w4.eR⟩, R, _, V.str l[l.length - 1], rfl, rfl, w4.eR, by rw [List.length_map, List.getElem?_map, List.getElem?_eq_getElem hl]; rfl, l.dropLast, rfl, ?_, fun n => absurd c2 n⟩
      rw [← List.map_dropLast]
      exact w4.put (by rw [List.length_dropLast]; omega) (by rw [List.length_dropLast]; have := w4.hi; omega) (fun z hz => w4.ok z ((List.dropLast_sublist l).subset hz))
    clear w4
    clear l H4
    rintro σ H4 ⟨l, rfl, w4, len⟩
    refine ⟨fun σ' H' => ∃ (l : List Str), σ' = [some (.ref d), some (.ref t), some (.ref R), some (.int way), x4, x5] ∧ Wl H H' d g R l 1 8 ∧ (way ≠ 2 → 2 ≤ l.length), ?_, ?_⟩
    · refine ⟨_, rfl, (by show 3 ≤ sizeLine; decide), fun U hU => ⟨U, _, rfl, .inr (.of upd_same), rfl, rfl, _, rfl, ?_⟩⟩
      have w5 := w4.std ((Std.refl w4.sd.dk).new (o := .tup [.int 3, .int 6, .int 7]) hU)
      refine ite2 (fun c => ?_) (fun c => ⟨l, rfl, w5, len⟩)
      generalize upd H4 U (.tup [.int 3, .int 6, .int 7]) = H5 at w5
      refine ⟨_, rfl, _, rfl, d, g, t, ts, rfl, w5.sd.dk, lt0.keep w5.sd.kd, ok, fun z H6 s6 wz zl => ?_⟩
      have w6 := w5.std s6
      have ll := w6.lo
      refine ⟨_, rfl, _, rfl, R, _, rfl, .inl (.of w6.eR), _, _, rfl, rfl, R, _, _, l.length - 1, rfl, rfl, w6.eR, ?_, l.set (l.length - 1) z, rfl, ?_, fun n => by rw [List.length_set]; exact len n⟩
      · rw [show ((l.map V.str).length : Int) - 1 = ((l.length - 1 : Nat) : Int) by rw [List.length_map]; omega]
        exact ixN_nat (by rw [List.length_map]; omega)
      rw [← List.map_set]
      exact w6.put (by rw [List.length_set]; exact w6.lo) (by rw [List.length_set]; exact w6.hi) (ok_set w6.ok ⟨wz.ok, Nat.le_trans zl (by decide)⟩ _)
    clear w4 len
    clear l H4
    rintro σ H4 ⟨l, rfl, w4, len⟩
    refine ⟨fun σ' H' => ∃ (R : Addr) (l : List Str), σ' = [some (.ref d), some (.ref t), some (.ref R), some (.int way), x4, x5] ∧ Wl H H' d g R l 1 8 ∧ (way ≠ 2 → 2 ≤ l.length), ?_, ?_⟩
    · refine ⟨_, rfl, (by show 2 ≤ sizeLine; decide), fun U hU => ⟨U, _, rfl, .inr (.of upd_same), rfl, rfl, _, rfl, ?_⟩⟩
      have w5 := w4.std ((Std.refl w4.sd.dk).new (o := .tup [.int 4, .int 7]) hU)
      refine ite2 (fun c => ?_) (fun c => ⟨R, l, rfl, w5, len⟩)
      have l2 : 2 ≤ l.length := len (fun e => by subst e; revert c; decide)
      generalize upd H4 U (.tup [.int 4, .int 7]) = H5 at w5
      refine ⟨_, rfl, R, _, _, V.str l[1], rfl, rfl, .of w5.eR, atI_nat (j := 1) (by rw [List.getElem?_map, List.getElem?_eq_getElem (by omega)]; rfl), _, rfl, _, rfl, R, _, rfl, .inl (.of w5.eR), _, _, rfl, rfl, R, _, _, V.str l[l.length - 1], rfl, rfl, .of w5.eR, at_of (j := l.length - 1) ?_ (by rw [List.getElem?_map, List.getElem?_eq_getElem (by omega)]; rfl), (by show 3 ≤ sizeLine; decide), fun R2 hR2 => ?_⟩
      · show ((l.map V.str).length : Int) - 1 = ((l.length - 1 : Nat) : Int)
        rw [List.length_map]; omega
      have w6 : Wl H _ d g R2 [("next" : Str), l[1], l[l.length - 1]] 3 3 := Wl.new w5.sd hR2 (Nat.le_refl _) (Nat.le_refl _) (fun z hz => by
        simp only [List.mem_cons, List.not_mem_nil, or_false] at hz
        rcases hz with rfl | rfl | rfl
        · exact ⟨by decide +kernel, by decide +kernel⟩
        · exact w5.ok _ (List.getElem_mem _)
        · exact w5.ok _ (List.getElem_mem _))
      refine ⟨_, rfl, _, rfl, d, g, t, ts, rfl, w6.sd.dk, lt0.keep w6.sd.kd, ok, fun z H6 s6 wz zl => ?_⟩
      have w7 := w6.std s6
      generalize [("next" : Str), l[1], l[l.length - 1]] = l3 at w7
      have ll := w7.lo
      refine ⟨_, rfl, R2, _, _, 1, rfl, rfl, w7.eR, ixN_nat (j := 1) (by rw [List.length_map]; omega), R2, l3.set 1 z, rfl, ?_, fun _ => by rw [List.length_set]; omega⟩
      rw [← List.map_set]
      exact w7.put (by rw [List.length_set]; omega) (by rw [List.length_set]; have := w7.hi; omega) (ok_set w7.ok ⟨wz.ok, Nat.le_trans zl (by decide)⟩ _)
    clear w4 len
    clear l H4 R
    rintro σ H4 ⟨R, l, rfl, w4, len⟩
    refine ⟨fun σ' H' => ∃ (R : Addr) (l : List Str), σ' = [some (.ref d), some (.ref t), some (.ref R), some (.int way), x4, x5] ∧ Wl H H' d g R l 1 8, ?_, ?_⟩
    · refine ⟨_, rfl, rfl, _, rfl, ite2 (fun c => ?_) (fun c => ⟨R, l, rfl, w4⟩)⟩
      have c2 : way = 5 := V.int.inj (of_decide_eq_true c)
      have l2 : 2 ≤ l.length := len (by omega)
      refine ⟨(by show 6 ≤ sizeLine; decide), fun L hL => ?_⟩
      have w5 := w4.std ((Std.refl w4.sd.dk).new (o := .lst (sx.map V.str)) hL)
      have lk : Lat (upd H4 L (.lst (sx.map V.str))) d g L (sx.map V.str) := Lat.new w4.sd.dk hL
      refine ⟨_, rfl, d, g, 6, rfl, w5.sd.dk, by decide, by decide +kernel, fun r H5 r0 r1 hD5 k5 => ?_⟩
      obtain ⟨r, rfl⟩ := Int.eq_ofNat_of_zero_le r0
      have w6 := w5.std ((Std.refl w5.sd.dk).draw hD5 k5)
      have hr6 : r < sx.length := by show r < 6; omega
      have okz : Wz sx[r] := all_ok sx_ok _ (List.getElem_mem hr6)
      refine ⟨L, _, _, V.str sx[r], rfl, rfl, .of (lk.keep k5).at_, atI_nat (by rw [List.getElem?_map, List.getElem?_eq_getElem hr6]; rfl), ?_⟩
      generalize sx[r] = z at okz
      refine ⟨_, rfl, R, _, _, V.str l[1], rfl, rfl, .of w6.eR, atI_nat (j := 1) (by rw [List.getElem?_map, List.getElem?_eq_getElem (by omega)]; rfl), _, rfl, R, _, _, V.str l[1], rfl, rfl, .of w6.eR, atI_nat (j := 1) (by rw [List.getElem?_map, List.getElem?_eq_getElem (by omega)]; rfl), (by show 3 ≤ sizeLine; decide), fun R2 hR2 => ?_⟩
      have w7 : Wl H _ d g R2 [z, l[1], l[1]] 1 8 := Wl.new w6.sd hR2 (by simp) (by simp) (fun y hy => by
        simp only [List.mem_cons, List.not_mem_nil, or_false] at hy
        rcases hy with rfl | rfl | rfl
        · exact okz
        · exact w6.ok _ (List.getElem_mem _)
        · exact w6.ok _ (List.getElem_mem _))
      exact ⟨R2, _, rfl, w7⟩
    clear w4 len
    clear l H4 R
    rintro σ H4 ⟨R, l, rfl, w4⟩
    refine ⟨fun σ' H' => ∃ (R : Addr) (l : List Str), σ' = [some (.ref d), some (.ref t), some (.ref R), some (.int way), x4, x5] ∧ Wl H H' d g R l 1 8, ?_, ?_⟩
    · refine ⟨_, rfl, d, g, 8, rfl, w4.sd.dk, by decide, by decide +kernel, fun r H5 r0 r1 hD5 k5 => ⟨rfl, _, rfl, ?_⟩⟩
      have w5 := w4.std ((Std.refl w4.sd.dk).draw hD5 k5)
      refine ite2 (fun c => ?_) (fun c => ⟨R, l, rfl, w5⟩)
      refine ⟨(by show 3 ≤ sizeLine; decide), fun R2 hR2 => ?_⟩
      have w6 : Wl H _ d g R2 [("same" : Str), "No", "No"] 1 8 := Wl.new w5.sd hR2 (by simp) (by simp) (all_ok (by decide +kernel))
      exact ⟨R2, _, rfl, w6⟩
    clear w4
    clear l H4 R
    rintro σ H4 ⟨R, l, rfl, w4⟩
    refine ⟨_, rfl, R, _, rfl, .inl ⟨.of w4.eR, fun u hu => ?_⟩⟩
    exact k u l _ (w4.sd.new hu) upd_same w4.ok w4.lo w4.hi
/-! ### rules -/
/-! ### rules that are none -/
/-- the first word that is no task -/
def unk (ts : List Str) : List Str → Option Str
  | [] => none
  | z :: r => if z ∈ ts then unk ts r else some z
inductive RF
  | inv
  | unk (z : Str)
  | same (z : Str)
def shapeB (l : List Str) : Bool := match l with
  | [] => false
  | k :: r => decide ((k ∈ two ∧ r.length = 1) ∨ (k ∈ six ∧ r.length = 2))
/-- what is wrong with a tuple of words -/
def rfault (ts l : List Str) : Option RF := if shapeB l = true then (match unk ts (l.drop 1) with
  | some z => some (.unk z)
  | none => if l.length = 3 ∧ l.getD 1 "" = l.getD 2 "" then some (.same (l.getD 1 "")) else none) else some .inv
theorem unk_none {ts : List Str} : ∀ {r : List Str}, unk ts r = none → ∀ z ∈ r, z ∈ ts
  | [], _, z, h => absurd h List.not_mem_nil
  | y :: r, e, z, h => by
    unfold unk at e
    by_cases c : y ∈ ts
    · rw [if_pos c] at e
      rcases List.mem_cons.mp h with q | q
      · rw [q]; exact c
      · exact unk_none e z q
    · rw [if_neg c] at e
      cases e
theorem len_two {α : Type} : ∀ {r : List α}, r.length = 2 → ∃ x y, r = [x, y]
  | [x, y], _ => ⟨x, y, rfl⟩
theorem rfault_none {ts l : List Str} (h : rfault ts l = none) : RuleOk ts l := by
  unfold rfault at h
  by_cases c : shapeB l = true
  · rw [if_pos c] at h
    match l, c, h with
    | k :: r, c, h =>
      have sh : (k ∈ two ∧ r.length = 1) ∨ (k ∈ six ∧ r.length = 2) := of_decide_eq_true c
      cases u : unk ts ((k :: r).drop 1) with
      | some z => rw [u] at h; cases h
      | none =>
        rw [u] at h
        have mem := unk_none u
        rcases sh with ⟨h1, h2⟩ | ⟨h1, h2⟩
        · obtain ⟨x, rfl⟩ := List.length_eq_one_iff.mp h2
          exact .inl ⟨k, x, h1, mem x List.mem_cons_self, rfl⟩
        · obtain ⟨x, y, rfl⟩ := len_two h2
          refine .inr ⟨k, x, y, h1, mem x List.mem_cons_self, mem y (List.mem_cons_of_mem _ List.mem_cons_self), fun e => ?_, rfl⟩
          have h : (if [k, x, y].length = 3 ∧ x = y then some (RF.same x) else none) = none := h
          rw [if_pos ⟨rfl, e⟩] at h
          cases h
  · rw [if_neg c] at h
    cases h
def Raises (E : XK) (H : Hp) (C : Addr) (v : V) : Prop := ∀ d H', H d = none → Same H H' → H' d = some (.xd [(("value" : Str), v)]) → E (.ref C) (some d) H'
/-- what a rule leads to -/
def RuleTo (CI CU CS : Addr) (E : XK) (H : Hp) (a : Addr) (f : Option RF) (good : Prop) : Prop := (f = some .inv → Raises E H CI (.ref a)) ∧ (∀ z, f = some (.unk z) → Raises E H CU (.str z)) ∧ (∀ z, f = some (.same z) → Raises E H CS (.str z)) ∧ (f = none → good)
def sp_check_rule (K : PySem.W.Frag) (CI CU CS : Addr) : Sp := fun vs H Q E => ∃ (a t : Addr) (l ts : List Str), vs = [.ref a, .ref t] ∧ SqT K H a (l.map V.str) ∧ SqL K H t (ts.map V.str) ∧ 1 ≤ l.length ∧ l.length ≤ 100 ∧ RuleTo CI CU CS E H a (rfault ts l) (∀ H', Same H H' → Q .non H')
theorem kind_at (T : Tx K w mg) {k : Str} {n : Int} (h : (k ∈ two ∧ n = 1) ∨ (k ∈ six ∧ n = 2)) : ∃ t, PySem.W.nsIn K T.d__TASKS_IN k = some (some (.int n t)) := by
  rcases h with ⟨h, rfl⟩ | ⟨h, rfl⟩
  · simp only [two, List.mem_cons, List.not_mem_nil, or_false] at h
    rcases h with rfl | rfl
    · exact T.k__TASKS_IN_first
    · exact T.k__TASKS_IN_last
  · simp only [six, List.mem_cons, List.not_mem_nil, or_false] at h
    rcases h with rfl | rfl | rfl | rfl | rfl | rfl
    · exact T.k__TASKS_IN_before
    · exact T.k__TASKS_IN_upto
    · exact T.k__TASKS_IN_same
    · exact T.k__TASKS_IN_apart
    · exact T.k__TASKS_IN_far
    · exact T.k__TASKS_IN_next
theorem no_kind (T : Tx K w mg) {k : Str} (h1 : k ∉ two) (h2 : k ∉ six) : PySem.W.nsIn K T.d__TASKS_IN k = some none := ns_none T.kd__TASKS_IN T.ks__TASKS_IN fun m => by
  simp only [List.mem_cons, List.not_mem_nil, or_false] at m
  rcases m with rfl | rfl | rfl | rfl | rfl | rfl | rfl | rfl
  · exact h2 (by simp [six])
  · exact h2 (by simp [six])
  · exact h2 (by simp [six])
  · exact h2 (by simp [six])
  · exact h2 (by simp [six])
  · exact h2 (by simp [six])
  · exact h1 (by simp [two])
  · exact h1 (by simp [two])
theorem two_six {k : Str} (h1 : k ∈ two) (h2 : k ∈ six) : False := by
  simp only [two, List.mem_cons, List.not_mem_nil, or_false] at h1
  rcases h1 with rfl | rfl
  · revert h2; decide +kernel
  · revert h2; decide +kernel
theorem ok_check_rule (T : Tx K w mg) : FnOk P w K mg base (L2.CX P w) 3 T.f_check_rule T.d_check_rule ["rule", "tasks"] (sp_check_rule K T.C_InvalidRule T.C_UnknownTask T.C_SameTask) := by
  refine T.F_check_rule.okX sc_check_rule (fun vs H Q E h => ?_) (fun cdv A outer s H vs Q E hr h => ?_)
  · obtain ⟨a, t, l, ts, rfl, _⟩ := h
    rfl
  · obtain ⟨a, t, l, ts, rfl, hA, hT, l1, l100, k0, k1, k2, k3⟩ := h
    match l, l1, hA, l100, k0, k1, k2, k3 with
    | kd :: r, l1, hA, l100, k0, k1, k2, k3 =>
    refine ⟨_,
    (pss_cons
      (ps_if (PW.pt (pw_or (pt_cmpR (op_notIn_kd T.kd__TASKS_IN) (pe_ix ix_tup (pv 0) pe_int (fun _ _ => rfl)) (pe_glob (v := .ref T.d__TASKS_IN) (by rfl) T.g__TASKS_IN rfl) (by rfl)) (pw_or1 (pt_cmpR op_ne (pe_callB call_len_seq (by rfl) T.m_len (by decide +kernel) (pa_cons (pv 0) pa_nil)) (pe_op op_add pe_int (pe_ix (ix_kd T.kd__TASKS_IN) (pe_glob (v := .ref T.d__TASKS_IN) (by rfl) T.g__TASKS_IN rfl) (pe_ix ix_tup (pv 0) pe_int (fun _ _ => rfl)) (fun _ _ => rfl))) (nomark _)))))
        (pss_one
          (ps_raise rfl (takes_of rfl rfl rfl rfl) (pmk_oex T.ox_InvalidRule T.ic_InvalidRule T.ti (ok_PlanError_init T) hr T.b_PlanError_init .nil pass0 (by rfl) T.mg_InvalidRule (pa_cons (pv 0) pa_nil))))
        pss_nil)
    (pss_cons
      (ps_for (passes_of rfl) rfl (pi_tup (pe_slice sl_tup (pv 0) (po_some pe_int) po_none)) (pg_name (i := 2) sc_check_rule.nd rfl (.inl rfl))
        (pss_one
          (ps_if (pt_cmpR op_notIn_seq (pv 2) (pv 1) (by rfl))
            (pss_one
              (ps_raise rfl (takes_of rfl rfl rfl rfl) (pmk_oex T.ox_UnknownTask T.ic_UnknownTask T.ti (ok_PlanError_init T) hr T.b_PlanError_init .nil pass0 (by rfl) T.mg_UnknownTask (pa_cons (pv 2) pa_nil))))
            pss_nil)))
    (pss_one
      (ps_if (PW.pt (pw_and (pt_cmpR op_eq (pe_callB call_len_seq (by rfl) T.m_len (by decide +kernel) (pa_cons (pv 0) pa_nil)) pe_int (nomark _)) (pw_and1 (pt_cmpR op_eq (pe_ix ix_tup (pv 0) pe_int (fun _ _ => rfl)) (pe_ix ix_tup (pv 0) pe_int (fun _ _ => rfl)) (nomark _)))))
        (pss_one
          (ps_raise rfl (takes_of rfl rfl rfl rfl) (pmk_oex T.ox_SameTask T.ic_SameTask T.ti (ok_PlanError_init T) hr T.b_PlanError_init .nil pass0 (by rfl) T.mg_SameTask (pa_cons (pe_ix ix_tup (pv 0) pe_int (fun _ _ => rfl)) pa_nil))))
        pss_nil)))), ?_⟩
    have inv : shapeB (kd :: r) ≠ true → rfault ts (kd :: r) = some .inv := fun h => if_neg h
    by_cases ink : kd ∈ two ∨ kd ∈ six
    · obtain ⟨n, hn⟩ : ∃ n : Nat, (kd ∈ two ∧ n = 1) ∨ (kd ∈ six ∧ n = 2) := ink.elim (fun h => ⟨1, .inl ⟨h, rfl⟩⟩) fun h => ⟨2, .inr ⟨h, rfl⟩⟩
      obtain ⟨tk, hd⟩ := kind_at T (k := kd) (n := (n : Int)) (hn.elim (fun h => .inl ⟨h.1, by rw [h.2]; rfl⟩) fun h => .inr ⟨h.1, by rw [h.2]; rfl⟩)
      refine ⟨_, rfl, a, _, _, _, rfl, rfl, hA, atI_nat (j := 0) rfl, _, _, rfl, rfl, hd, _, rfl, ?_⟩
      refine ⟨_, rfl, a, _, rfl, .inr hA, _, rfl, a, _, _, _, rfl, rfl, hA, atI_nat (j := 0) rfl, _, _, .int (n : Int), rfl, rfl, hd, ⟨_, rfl⟩, _, _, rfl, rfl, rfl, _, rfl, ?_⟩
      have ln : (V.int (((kd :: r).map V.str).length : Int) = V.int (1 + (n : Int))) ↔ r.length = n := by
        rw [List.length_map, List.length_cons]
        constructor
        · intro h
          have := V.int.inj h
          omega
        · intro h
          congr 1
          omega
      refine ite2 (fun c => ?_) (fun c => ?_)
      · have ne : r.length ≠ n := fun h => by
          rw [decide_eq_true (ln.mpr h)] at c
          cases c
        have e1 := inv fun h => by
          have h := of_decide_eq_true h
          rcases hn with ⟨h1, h2⟩ | ⟨h1, h2⟩
          · rcases h with ⟨_, h4⟩ | ⟨h3, h4⟩
            · omega
            · exact two_six h1 h3
          · rcases h with ⟨h3, h4⟩ | ⟨_, h4⟩
            · exact two_six h3 h1
            · omega
        exact ⟨_, rfl, (by show 1 ≤ 1000; decide), raised (W := E) T.ox_InvalidRule T.nv_InvalidRule (k0 e1)⟩
      have hrn : r.length = n := by
        refine Classical.byContradiction fun h => c ?_
        rw [decide_eq_false fun q => h (ln.mp q)]
        rfl
      have sh : shapeB (kd :: r) = true := decide_eq_true (hn.elim (fun h => .inl ⟨h.1, by omega⟩) fun h => .inr ⟨h.1, by omega⟩)
      have rf : rfault ts (kd :: r) = (match unk ts r with
        | some z => some (.unk z)
        | none => if (kd :: r).length = 3 ∧ (kd :: r).getD 1 "" = (kd :: r).getD 2 "" then some (.same ((kd :: r).getD 1 "")) else none) := if_pos sh
      refine ⟨_, rfl, _, rfl, a, _, rfl, hA, ?_, fun p hp => ⟨_, rfl, ⟨_, .of upd_same⟩, ?_⟩⟩
      · rintro ⟨h1, _⟩
        rw [show HT.sIx ((kd :: r).map V.str).length 0 (some 1) = min 1 ((kd :: r).map V.str).length from HT.sIx_nat _ _ 1, List.length_map, List.length_cons] at h1
        omega
      have ec : cutV ((kd :: r).map V.str) (some 1) none = r.map V.str := cut_drop _ 1
      rw [ec] at *
      refine for_tup (xs := r.map V.str) (fun i σ H' => Same (upd H p (.tup (r.map V.str))) H' ∧ unk ts r = unk ts (r.drop i) ∧ ∃ x2, σ = [some (.ref a), some (.ref t), x2]) ?_ ?_ ?_ ?_
      · exact ⟨Same.refl _, rfl, none, rfl⟩
      · rintro i σ H' _ ⟨sm, _⟩
        exact .of (sm _ _ upd_same)
      · rintro i x σ H1 hi ⟨sm, ue, x2, rfl⟩
        rw [List.getElem?_map] at hi
        obtain ⟨z, hz, rfl⟩ := Option.map_eq_some_iff.mp hi
        have s1 := (same_upd (o := .tup (r.map V.str)) hp).trans sm
        have step : r.drop i = z :: r.drop (i + 1) := by
          rw [← (List.getElem?_eq_some_iff.mp hz).2, List.getElem_cons_drop]
        rw [step, show unk ts (z :: r.drop (i + 1)) = if z ∈ ts then unk ts (r.drop (i + 1)) else some z from rfl] at ue
        refine ⟨_, rfl, _, rfl, t, _, rfl, .inl (s1.seq hT), rfl, flat_strs _, _, rfl, ?_⟩
        rw [show inV (V.str z) (ts.map V.str) = decide (z ∈ ts) from inV_str z ts]
        refine ite2 (fun d => ?_) (fun d => ?_)
        · have nz : z ∉ ts := fun h => by
            rw [decide_eq_true h] at d
            cases d
          rw [if_neg nz] at ue
          rw [ue] at rf
          exact ⟨_, rfl, (by show 1 ≤ 1000; decide), raised (W := E) T.ox_UnknownTask T.nv_UnknownTask fun d H' h1 h2 h3 => k1 z rf d H' (s1.free h1) (s1.trans h2) h3⟩
        · have yz : z ∈ ts := Classical.byContradiction fun h => d (by rw [decide_eq_false h]; rfl)
          rw [if_pos yz] at ue
          exact ⟨sm, ue, _, rfl⟩
      · rintro σ H1 ⟨sm, ue, x2, rfl⟩
        have s1 := (same_upd (o := .tup (r.map V.str)) hp).trans sm
        have hA1 := Same.tup s1 hA
        rw [List.length_map, List.drop_length] at ue
        rw [show unk ts [] = none from rfl] at ue
        rw [ue] at rf
        have rf : rfault ts (kd :: r) = if (kd :: r).length = 3 ∧ (kd :: r).getD 1 "" = (kd :: r).getD 2 "" then some (.same ((kd :: r).getD 1 "")) else none := rf
        refine ⟨_, rfl, a, _, rfl, .inr hA1, rfl, _, rfl, ite2 (fun d => ?_) (fun d => ?_)⟩
        · have l3 : (kd :: r).length = 3 := by
            have := V.int.inj (of_decide_eq_true d)
            rw [List.length_map] at this
            omega
          have r2 : r.length = 2 := by
            rw [List.length_cons] at l3
            omega
          obtain ⟨x, y, rfl⟩ := len_two r2
          refine ⟨_, rfl, a, _, _, _, rfl, rfl, hA1, atI_nat (j := 1) rfl, _, rfl, a, _, _, _, rfl, rfl, hA1, atI_nat (j := 2) rfl, rfl, _, rfl, ite2 (fun e => ?_) (fun e => ?_)⟩
          · have exy : x = y := V.str.inj (of_decide_eq_true e)
            rw [if_pos ⟨rfl, exy⟩] at rf
            exact ⟨_, rfl, a, _, _, _, rfl, rfl, hA1, atI_nat (j := 1) rfl, (by show 1 ≤ 1000; decide), raised (W := E) T.ox_SameTask T.nv_SameTask fun d H' h1 h2 h3 => k2 x rf d H' (s1.free h1) (s1.trans h2) h3⟩
          · rw [if_neg fun h => e (decide_eq_true (congrArg V.str h.2))] at rf
            exact k3 rf H1 s1
        · rw [if_neg fun h => d (decide_eq_true (by rw [List.length_map, h.1]; rfl))] at rf
          exact k3 rf H1 s1
    · have e0 := no_kind T (k := kd) (fun h => ink (.inl h)) fun h => ink (.inr h)
      have e1 := inv fun h => by
        have h := of_decide_eq_true h
        exact ink (h.elim (fun q => .inl q.1) fun q => .inr q.1)
      exact ⟨_, rfl, a, _, _, _, rfl, rfl, hA, atI_nat (j := 0) rfl, _, _, rfl, rfl, e0, _, rfl, iteB rfl (iteB rfl ⟨_, rfl, (by show 1 ≤ 1000; decide), raised (W := E) T.ox_InvalidRule T.nv_InvalidRule (k0 e1)⟩)⟩
/-! ### calls -/
theorem Raises.same {E : XK} {H H1 : Hp} {C : Addr} {v : V} (h : Raises E H C v) (s : Same H H1) : Raises E H1 C v := fun d H' h1 h2 h3 => h d H' (s.free h1) (s.trans h2) h3
abbrev RR := Addr × List Str
/-- the first rule that is none -/
def rsf (ts : List Str) : List RR → Option (Addr × RF)
  | [] => none
  | (a, l) :: r => match rfault ts l with
    | some f => some (a, f)
    | none => rsf ts r
def RulesTo (CI CU CS : Addr) (E : XK) (H : Hp) (f : Option (Addr × RF)) (good : Prop) : Prop := (∀ a, f = some (a, .inv) → Raises E H CI (.ref a)) ∧ (∀ a z, f = some (a, .unk z) → Raises E H CU (.str z)) ∧ (∀ a z, f = some (a, .same z) → Raises E H CS (.str z)) ∧ (f = none → good)
theorem RulesTo.same {CI CU CS : Addr} {E : XK} {H H1 : Hp} {f : Option (Addr × RF)} {good good' : Prop} (h : RulesTo CI CU CS E H f good) (s : Same H H1) (k : good → good') : RulesTo CI CU CS E H1 f good' :=
  ⟨fun a e => (h.1 a e).same s, fun a z e => (h.2.1 a z e).same s, fun a z e => (h.2.2.1 a z e).same s, fun e => k (h.2.2.2 e)⟩
theorem rsf_none {ts : List Str} : ∀ {rows : List RR}, rsf ts rows = none → ∀ p ∈ rows, RuleOk ts p.2
  | [], _, p, h => absurd h List.not_mem_nil
  | (a, l) :: r, e, p, h => by
    unfold rsf at e
    cases f : rfault ts l with
    | some f' => rw [f] at e; cases e
    | none =>
      rw [f] at e
      rcases List.mem_cons.mp h with q | q
      · rw [q]; exact rfault_none f
      · exact rsf_none e p q
theorem rfault_ok {ts l : List Str} (h : RuleOk ts l) : rfault ts l = none := by
  have un : ∀ {r : List Str}, (∀ z ∈ r, z ∈ ts) → unk ts r = none := fun {r} => by
    induction r with
    | nil => intro _; rfl
    | cons y r ih =>
      intro h
      show (if y ∈ ts then unk ts r else some y) = none
      rw [if_pos (h y List.mem_cons_self)]
      exact ih fun z hz => h z (List.mem_cons_of_mem _ hz)
  unfold rfault
  rcases h with ⟨k, x, h1, h2, rfl⟩ | ⟨k, x, y, h1, h2, h3, h4, rfl⟩
  · rw [if_pos (show shapeB [k, x] = true from decide_eq_true (.inl ⟨h1, rfl⟩)), show List.drop 1 [k, x] = [x] from rfl, un fun z hz => by rw [List.mem_singleton.mp hz]; exact h2]
    rfl
  · rw [if_pos (show shapeB [k, x, y] = true from decide_eq_true (.inr ⟨h1, rfl⟩)), show List.drop 1 [k, x, y] = [x, y] from rfl, un fun z hz => by
      rcases List.mem_cons.mp hz with e | e
      · rw [e]; exact h2
      · rw [List.mem_singleton.mp e]; exact h3]
    show (if [k, x, y].length = 3 ∧ x = y then some (RF.same x) else none) = none
    rw [if_neg fun e => h4 e.2]
theorem rsf_app {ts : List Str} {more : List RR} : ∀ {rows : List RR}, (∀ p ∈ rows, RuleOk ts p.2) → rsf ts (rows ++ more) = rsf ts more
  | [], _ => rfl
  | (a, l) :: r, h => by
    show (match rfault ts l with | some f => some (a, f) | none => rsf ts (r ++ more)) = rsf ts more
    rw [rfault_ok (h (a, l) List.mem_cons_self)]
    exact rsf_app fun p hp => h p (List.mem_cons_of_mem _ hp)
/-- tuples of words -/
def RowsAt (H : Hp) (rows : List RR) : Prop := ∀ p ∈ rows, H p.1 = some (.tup (p.2.map V.str)) ∧ 1 ≤ p.2.length ∧ p.2.length ≤ 100
theorem RowsAt.keep {H H' : Hp} {rows : List RR} (h : RowsAt H rows) (k : Tk H H') : RowsAt H' rows := fun p hp => ⟨k _ _ (h p hp).1, (h p hp).2⟩
def sp_init (K : PySem.W.Frag) (C CI CU CS : Addr) : Sp := fun vs H Q E => ∃ (x dx t r : Addr) (ts : List Str) (rows : List RR), vs = [.ref x, .ref t, .ref r] ∧ H x = some (.ins C dx []) ∧ SqL K H t (ts.map V.str) ∧ SqL K H r (rows.map fun p => V.ref p.1) ∧ TasksOk ts ∧ RowsAt H rows ∧
  RulesTo CI CU CS E H (rsf ts rows) (∀ p q H', H p = none → H q = none → H' x = some (.ins C dx (fl p q)) → H' p = some (.lst (ts.map V.str)) → H' q = some (.lst (rows.map fun p => V.ref p.1)) → (∀ b o, H b = some o → b ≠ x → H' b = some o) → Q .non H')
theorem ok_Book_init (T : Tx K w mg) : FnOk P w K mg base (L2.CX P w) 4 T.f_Book_init T.d_Book_init ["self", "tasks", "rules"] (sp_init K T.C_Book T.C_InvalidRule T.C_UnknownTask T.C_SameTask) := by
  refine T.F_Book_init.okX sc_Book_init (fun vs H Q E h => ?_) (fun cdv A outer s H vs Q E hr h => ?_)
  · obtain ⟨x, dx, t, r, ts, rows, rfl, _⟩ := h
    rfl
  · obtain ⟨x, dx, t, r, ts, rows, rfl, hx, hT, hR, ok, at_, k0, k1, k2, k3⟩ := h
    refine ⟨_,
    (pss_cons
      (ps_expr (pe_call (ok_check_tasks T) (hr.mono (by decide)) (by rfl) T.g_check_tasks T.F_check_tasks.kp T.b_check_tasks .nil pass0 (pa_cons (pv 1) pa_nil)))
    (pss_cons
      (ps_for (passes_of rfl) rfl (pi_list (pv 2)) (pg_name (i := 3) sc_Book_init.nd rfl (.inl rfl))
        (pss_one
          (ps_expr (pe_call (ok_check_rule T) hr (by rfl) T.g_check_rule T.F_check_rule.kp T.b_check_rule .nil (passE (takes_of rfl rfl rfl rfl)) (pa_cons (pv 3) (pa_cons (pv 1) pa_nil))))))
    (pss_cons
      (ps_fld (pv 0) (pe_callTy call_list_of (by rfl) T.m_list (by decide +kernel) (pa_cons (pv 1) pa_nil)) rfl)
    (pss_one
      (ps_fld (pv 0) (pe_callTy call_list_of (by rfl) T.m_list (by decide +kernel) (pa_cons (pv 2) pa_nil)) rfl))))), ?_⟩
    refine ⟨_, rfl, t, ts, rfl, hT, ok, fun H1 s1 => ?_⟩
    refine ⟨_, rfl, r, rfl, ⟨_, s1.seq hR⟩, for_list (xs := rows.map fun (p : RR) => V.ref p.1) (fun i σ H' => Same H H' ∧ rsf ts rows = rsf ts (rows.drop i) ∧ ∃ x3, σ = [some (.ref x), some (.ref t), some (.ref r), x3]) ⟨s1, rfl, none, rfl⟩ (fun i σ H' _ h => h.1.seq hR) ?_ ?_⟩
    · rintro i v σ H2 hi ⟨sm, re, x3, rfl⟩
      rw [List.getElem?_map] at hi
      obtain ⟨⟨a, l⟩, ha, rfl⟩ := Option.map_eq_some_iff.mp hi
      obtain ⟨hl, ll, lh⟩ := at_ _ (List.mem_of_getElem? ha)
      have step : rows.drop i = (a, l) :: rows.drop (i + 1) := by
        rw [← (List.getElem?_eq_some_iff.mp ha).2, List.getElem_cons_drop]
      rw [step, show rsf ts ((a, l) :: rows.drop (i + 1)) = (match rfault ts l with | some f => some (a, f) | none => rsf ts (rows.drop (i + 1))) from rfl] at re
      refine ⟨_, rfl, _, rfl, a, t, l, ts, rfl, .of (sm _ _ hl), sm.seq hT, ll, lh, fun e => ?_, fun z e => ?_, fun z e => ?_, fun e H3 s3 => ⟨sm.trans s3, ?_, _, rfl⟩⟩
      · rw [e] at re
        exact (k0 a re).same sm
      · rw [e] at re
        exact (k1 a z re).same sm
      · rw [e] at re
        exact (k2 a z re).same sm
      · rw [e] at re
        exact re
    · rintro σ H2 ⟨sm, re, x3, rfl⟩
      rw [List.length_map, List.drop_length] at re
      have k := k3 re
      refine ⟨_, rfl, t, _, rfl, .inl (sm.seq hT), fun p hp => ?_⟩
      have hx2 := sm _ _ hx
      have xp : x ≠ p := ne_of_none hx2 hp
      have s2 : Same H (upd H2 p (.lst (ts.map V.str))) := sm.trans (same_upd hp)
      have hx3 := s2 _ _ hx
      refine ⟨_, rfl, x, T.C_Book, dx, [], rfl, hx3, T.cl_Book, T.n_Book_tasks, (by show 0 < 1000; decide), ?_⟩
      have hR2 : SqL K (upd (upd H2 p (.lst (ts.map V.str))) x (.ins T.C_Book dx (putF "_tasks" (.ref p) []))) r (rows.map fun p => V.ref p.1) := by
        rcases s2.seq hR with (h | ⟨o, h⟩) | h
        · exact .inl (.inl (by rw [upd_ne (ne_of h hx3 (by intro z; cases z))]; exact h))
        · exact .inl (.inr ⟨o, by rw [upd_ne (ne_of h hx3 (by intro z; cases z))]; exact h⟩)
        · exact .inr h
      refine ⟨_, rfl, r, _, rfl, .inl hR2, fun q hq => ?_⟩
      have qx : x ≠ q := ne_of_none upd_same hq
      have qp : p ≠ q := ne_of_none (by rw [upd_ne xp.symm]; exact upd_same) hq
      refine ⟨_, rfl, x, T.C_Book, dx, _, rfl, (by rw [upd_ne qx]; exact upd_same), T.cl_Book, T.n_Book_rules, (by show 1 < 1000; decide), ?_⟩
      have hqH : H q = none := by
        rw [upd_ne qx.symm, upd_ne qp.symm] at hq
        exact sm.free hq
      refine k p q _ (sm.free hp) hqH upd_same ?_ ?_ fun b o e nb => ?_
      · rw [upd_ne xp.symm, upd_ne qp, upd_ne xp.symm, upd_same]
      · rw [upd_ne qx.symm, upd_same]
      · rw [upd_ne nb, upd_ne (ne_of_none e hqH), upd_ne nb]
        exact s2 b o e
theorem kb_Book_with_rules (T : Tx K w mg) : KBn K T.d_Book_with_rules ["self", "rules"] 1 ["rules"] (fun us ws => us ++ ws) (fun vs zs => vs ++ zs) := by
  obtain ⟨oc, od, kV, doc, pm, an, cdv, ct, osl, e, _, _⟩ := T.F_Book_with_rules.ex
  refine ⟨fun s us ws _ h1 h2 => ?_, fun r1 r2 => r1.append r2⟩
  rw [e]
  match us, ws, h1, h2 with
  | [_], [_], _, _ => exact BindsTo.of_eq rfl
/-- a book of rows -/
def PostR (C : Addr) (H : Hp) (ts : List Str) (rows : List RR) (Q : VK) : Prop := ∀ (x dx p q : Addr) (H' : Hp), Same H H' → H p = none → H q = none → H' x = some (.ins C dx (fl p q)) → H' p = some (.lst (ts.map V.str)) → H' q = some (.lst (rows.map fun p => V.ref p.1)) → Q (.ref x) H'
/-- the call of the class: a new book, or the first rule's error -/
theorem mkR {C CI CU CS : Addr} {H H1 : Hp} {t r : Addr} {ts : List Str} {rows : List RR} {R : Addr → Hp → Prop} {E : XK} (sm : Same H H1) (ht : H1 t = some (.lst (ts.map V.str))) (er : H1 r = some (.lst (rows.map fun p => V.ref p.1))) (ok : TasksOk ts) (at_ : RowsAt H1 rows)
    (h : RulesTo CI CU CS E H (rsf ts rows) (∀ (x dx p q : Addr) (H' : Hp), Same H H' → H p = none → H q = none → H' x = some (.ins C dx (fl p q)) → H' p = some (.lst (ts.map V.str)) → H' q = some (.lst (rows.map fun p => V.ref p.1)) → R x H')) :
    ∀ x dx, H1 x = none → H1 dx = none → dx ≠ x → sp_init K C CI CU CS [.ref x, .ref t, .ref r] (upd (upd H1 dx (.own x)) x (.ins C dx [])) (fun v H' => v = V.non ∧ R x H') E := by
  intro x dx hx hdx ne
  have sq : ∀ {b : Addr} {o : HO}, H1 b = some o → (upd (upd H1 dx (.own x)) x (.ins C dx [])) b = some o := fun {b o} e => by
    rw [upd_ne (ne_of_none e hx), upd_ne (ne_of_none e hdx)]
    exact e
  have free : ∀ {p : Addr}, (upd (upd H1 dx (.own x)) x (.ins C dx [])) p = none → H1 p = none := fun {p} f => by
    cases h : H1 p with
    | none => rfl
    | some o =>
      rw [sq h] at f
      cases f
  refine ⟨x, dx, t, r, ts, rows, rfl, upd_same, .of (sq ht), .of (sq er), ok, fun p hp => ⟨sq (at_ p hp).1, (at_ p hp).2⟩, h.same (sm.trans fun b o e => sq e) fun k p q H2 fp fq ex ep eq kp => ⟨rfl, ?_⟩⟩
  have s2 : Same H1 H2 := Same.made hx hdx kp
  exact k x dx p q H2 (sm.trans s2) (sm.free (free fp)) (sm.free (free fq)) ex ep eq
theorem fl_with (t r : Addr) : (fl t r).lookup ("with_rules" : Str) = none := by
  unfold fl
  rw [lookup_putF, if_neg (by decide +kernel), lookup_putF, if_neg (by decide +kernel)]
  rfl
def BkO (C : Addr) (H : Hp) (b : Addr) (ts : List Str) (rows : List RR) : Prop := ∃ dx t r, H b = some (.ins C dx (fl t r)) ∧ H t = some (.lst (ts.map V.str)) ∧ H r = some (.lst (rows.map fun p => V.ref p.1))
def sp_with (C CI CU CS : Addr) : Sp := fun vs H Q E => ∃ (b r : Addr) (ts : List Str) (own rows : List RR), vs = [.ref b, .ref r] ∧ BkO C H b ts own ∧ RowsAt H own ∧ (∀ p ∈ own, RuleOk ts p.2) ∧ H r = some (.lst (rows.map fun p => V.ref p.1)) ∧ RowsAt H rows ∧ TasksOk ts ∧ own.length ≤ 400 ∧ rows.length ≤ 400 ∧ RulesTo CI CU CS E H (rsf ts rows) (PostR C H ts (own ++ rows) Q)
theorem ok_Book_with_rules (T : Tx K w mg) : FnOk P w K mg base (L2.CX P w) 6 T.f_Book_with_rules T.d_Book_with_rules ["self", "rules"] (sp_with T.C_Book T.C_InvalidRule T.C_UnknownTask T.C_SameTask) := by
  refine T.F_Book_with_rules.okX sc_Book_with_rules (fun vs H Q E h => ?_) (fun cdv A outer s H vs Q E hr h => ?_)
  · obtain ⟨b, r, ts, own, rows, rfl, _⟩ := h
    rfl
  · obtain ⟨b, r, ts, own, rows, rfl, ⟨bx, t, br, hb, ht, hR⟩, at1, ok1, hr', at2, ok, f1, f2, to⟩ := h
    refine ⟨_,
    (pss_one
      (ps_ret (pe_make T.mk_Book (ok_Book_init T) hr (by rfl) T.mg_Book T.b_Book_init .nil (passE (takes_of rfl rfl rfl rfl)) (pa_cons (pe_fld (pv 0) rfl) (pa_cons (pe_op op_cat (pe_fld (pv 0) rfl) (pv 1)) pa_nil))))), ?_⟩
    refine ⟨_, rfl, b, T.C_Book, bx, _, _, rfl, hb, T.cl_Book, T.n_Book_tasks, fl_t t br, _, rfl, b, T.C_Book, bx, _, _, rfl, hb, T.cl_Book, T.n_Book_rules, fl_r t br, _, rfl, br, r, _, _, rfl, rfl, hR, hr', ?_, fun p hp => ?_⟩
    · rw [List.length_map, List.length_map]; exact Nat.le_of_lt (small1000 (by omega))
    have sp := same_upd (o := .lst (own.map (fun p => V.ref p.1) ++ rows.map fun p => V.ref p.1)) hp
    refine mkR (rows := own ++ rows) sp (sp _ _ ht) (by rw [upd_same, ← List.map_append]) ok (fun x hx => ?_) ?_
    · rcases List.mem_append.mp hx with h | h
      · exact (at1.keep (Same.tk sp)) x h
      · exact (at2.keep (Same.tk sp)) x h
    · rw [rsf_app ok1]
      exact to
theorem small9 {n : Int} (h0 : 0 ≤ n) (h : n < 4) : n = 0 ∨ n = 1 ∨ n = 2 ∨ n = 3 := by omega
def sp_call (C CI CU CS : Addr) : Sp := fun vs H Q E => ∃ (b t r : Addr) (way : Int) (ts : List Str) (own rows : List RR), vs = [.ref b, .ref t, .ref r, .int way] ∧ 0 ≤ way ∧ way < 4 ∧ BkO C H b ts own ∧ RowsAt H own ∧ (∀ p ∈ own, RuleOk ts p.2) ∧ H t = some (.lst (ts.map V.str)) ∧ H r = some (.lst (rows.map fun (p : RR) => V.ref p.1)) ∧ RowsAt H rows ∧ TasksOk ts ∧ own.length ≤ 400 ∧ rows.length ≤ 400 ∧
  RulesTo CI CU CS E H (rsf ts rows) (PostR C H ts (if way = 0 ∨ way = 3 then rows else own ++ rows) Q)
theorem ok_law_call (T : Tx K w mg) : FnOk P w K mg base (L2.CX P w) 7 T.f_law_call T.d_law_call ["book", "task_list", "rule_list", "way"] (sp_call T.C_Book T.C_InvalidRule T.C_UnknownTask T.C_SameTask) := by
  refine T.F_law_call.okX sc_law_call (fun vs H Q E h => ?_) (fun cdv A outer s H vs Q E hr h => ?_)
  · obtain ⟨b, t, r, way, ts, own, rows, rfl, _⟩ := h
    rfl
  · obtain ⟨b, t, r, way, ts, own, rows, rfl, w0, w4, bk, at1, ok1, ht, hr', at2, ok, f1, f2, to⟩ := h
    refine ⟨_,
    (pss_cons
      (ps_if (pt_cmpR op_eq (pv 3) pe_int (nomark _))
        (pss_one
          (ps_ret (pe_make T.mk_Book (ok_Book_init T) (hr.mono (by decide)) (by rfl) T.mg_Book T.b_Book_init .nil (passE (takes_of rfl rfl rfl rfl)) (pa_cons (pv 1) (pa_cons (pv 2) pa_nil)))))
        pss_nil)
    (pss_cons
      (ps_if (pt_cmpR op_eq (pv 3) pe_int (nomark _))
        (pss_one
          (ps_ret (pe_meth (pv 0) T.cl_Book T.me_Book_with_rules (ok_Book_with_rules T) hr T.b_Book_with_rules .nil (passE (takes_of rfl rfl rfl rfl)) (pa_cons (pv 2) pa_nil))))
        pss_nil)
    (pss_cons
      (ps_if (pt_cmpR op_eq (pv 3) pe_int (nomark _))
        (pss_one
          (ps_ret (pe_methN0 (pv 0) T.cl_Book T.me_Book_with_rules (ok_Book_with_rules T) hr (kb_Book_with_rules T) (passE (takes_of rfl rfl rfl rfl)) (pk_cons (pv 2) pk_nil))))
        pss_nil)
    (pss_one
      (ps_ret (pe_makeK0 T.mk_Book (ok_Book_init T) (hr.mono (by decide)) (by rfl) T.mg_Book (kb_Book_init T) (passE (takes_of rfl rfl rfl rfl)) (pk_cons (pv 2) (pk_cons (pv 1) pk_nil)))))))), ?_⟩
    obtain ⟨dx, p, q, hb, _, _⟩ := id bk
    rcases small9 w0 w4 with rfl | rfl | rfl | rfl
    · refine ⟨_, rfl, rfl, _, rfl, iteB rfl ⟨_, rfl, _, rfl, mkR (Same.refl H) ht hr' ok at2 ?_⟩⟩
      rw [if_pos (.inl rfl)] at to
      exact to
    · refine ⟨_, rfl, rfl, _, rfl, iteNB rfl ⟨_, rfl, rfl, _, rfl, iteB rfl ⟨_, rfl, b, dx, _, rfl, hb, fl_with p q, _, rfl, b, r, ts, own, rows, rfl, bk, at1, ok1, hr', at2, ok, f1, f2, ?_⟩⟩⟩
      rw [if_neg (by omega)] at to
      exact to
    · refine ⟨_, rfl, rfl, _, rfl, iteNB rfl ⟨_, rfl, rfl, _, rfl, iteNB rfl ⟨_, rfl, rfl, _, rfl, iteB rfl ⟨_, rfl, b, dx, _, rfl, hb, fl_with p q, _, rfl, rfl, b, r, ts, own, rows, rfl, bk, at1, ok1, hr', at2, ok, f1, f2, ?_⟩⟩⟩⟩
      rw [if_neg (by omega)] at to
      exact to
    · refine ⟨_, rfl, rfl, _, rfl, iteNB rfl ⟨_, rfl, rfl, _, rfl, iteNB rfl ⟨_, rfl, rfl, _, rfl, iteNB rfl ⟨_, rfl, _, rfl, rfl, rfl, mkR (Same.refl H) ht hr' ok at2 ?_⟩⟩⟩⟩
      rw [if_pos (.inr rfl)] at to
      exact to
/-- what is due of a list of rules -/
def dueR (f : Option (Addr × RF)) : Str × V := match f with
  | none => ("", .non)
  | some (a, .inv) => ("InvalidRule", .ref a)
  | some (_, .unk z) => ("UnknownTask", .str z)
  | some (_, .same z) => ("SameTask", .str z)
def sp_rdue (K : PySem.W.Frag) : Sp := fun vs H Q _ => ∃ (t r : Addr) (ts : List Str) (rows : List RR), vs = [.ref t, .ref r] ∧ SqL K H t (ts.map V.str) ∧ SqL K H r (rows.map fun (p : RR) => V.ref p.1) ∧ RowsAt H rows ∧ ∀ u H', Same H H' → H' u = some (.tup [.str (dueR (rsf ts rows)).1, (dueR (rsf ts rows)).2]) → Q (.ref u) H'
theorem inV_k (z : Str) (ks : List Str) : inV (V.str z) (ks.map V.str) = decide (z ∈ ks) := inV_str z ks
def eight : List Str := ["before", "upto", "same", "apart", "far", "next", "first", "last"]
theorem eight_iff {k : Str} : k ∈ eight ↔ k ∈ two ∨ k ∈ six := by
  simp only [eight, two, six, List.mem_cons, List.not_mem_nil, or_false]
  constructor
  · rintro (h | h | h | h | h | h | h | h)
    · exact .inr (.inl h)
    · exact .inr (.inr (.inl h))
    · exact .inr (.inr (.inr (.inl h)))
    · exact .inr (.inr (.inr (.inr (.inl h))))
    · exact .inr (.inr (.inr (.inr (.inr (.inl h)))))
    · exact .inr (.inr (.inr (.inr (.inr (.inr h)))))
    · exact .inl (.inl h)
    · exact .inl (.inr h)
  · rintro ((h | h) | h | h | h | h | h | h)
    · exact .inr (.inr (.inr (.inr (.inr (.inr (.inl h))))))
    · exact .inr (.inr (.inr (.inr (.inr (.inr (.inr h))))))
    · exact .inl h
    · exact .inr (.inl h)
    · exact .inr (.inr (.inl h))
    · exact .inr (.inr (.inr (.inl h)))
    · exact .inr (.inr (.inr (.inr (.inl h))))
    · exact .inr (.inr (.inr (.inr (.inr (.inl h)))))
theorem ok_law_rule_due (T : Tx K w mg) : FnOk P w K mg base CX0 1 T.f_law_rule_due T.d_law_rule_due ["task_list", "rule_list"] (sp_rdue K) := by
  refine T.F_law_rule_due.ok sc_law_rule_due (fun vs H Q E h => ?_) (fun cdv A outer s H vs Q E hr h => ?_)
  · obtain ⟨t, r, ts, rows, rfl, _⟩ := h
    rfl
  · obtain ⟨t, r, ts, rows, rfl, hT, hR, at_, k⟩ := h
    refine ⟨_,
    (pss_cons
      (ps_for PassesOwn.never rfl (pi_list (pv 1)) (pg_name (i := 2) sc_law_rule_due.nd rfl (.inl rfl))
        (pss_cons
          (ps_set (i := 3) sc_law_rule_due.nd rfl (.inl rfl) pe_int)
        (C8.pss_cut
          (ps_if (pt_cmpR op_in_seq (pe_ix ix_tup (pv 2) pe_int (fun _ _ => rfl)) (pe_tup (pa_cons pe_str (pa_cons pe_str pa_nil))) (by rfl))
            (pss_one
              (ps_set (i := 3) sc_law_rule_due.nd rfl (.inl rfl) pe_int))
            pss_nil)
        (pss_cons
          (ps_if (PW.pt (pw_or (pt_cmpR op_notIn_seq (pe_ix ix_tup (pv 2) pe_int (fun _ _ => rfl)) (pe_tup (pa_cons pe_str (pa_cons pe_str (pa_cons pe_str (pa_cons pe_str (pa_cons pe_str (pa_cons pe_str (pa_cons pe_str (pa_cons pe_str pa_nil))))))))) (by rfl)) (pw_or1 (pt_cmpR op_ne (pe_callB call_len_seq (by rfl) T.m_len (by decide +kernel) (pa_cons (pv 2) pa_nil)) (pv 3) (nomark _)))))
            (pss_one
              (ps_ret (pe_tup (pa_cons pe_str (pa_cons (pv 2) pa_nil)))))
            pss_nil)
        (pss_cons
          (ps_for PassesOwn.never rfl (pi_tup (pe_slice sl_tup (pv 2) (po_some pe_int) po_none)) (pg_name (i := 4) sc_law_rule_due.nd rfl (.inl rfl))
            (pss_one
              (ps_if (pt_cmpR op_notIn_seq (pv 4) (pv 0) (by rfl))
                (pss_one
                  (ps_ret (pe_tup (pa_cons pe_str (pa_cons (pv 4) pa_nil)))))
                pss_nil)))
        (pss_one
          (ps_if (PW.pt (pw_and (pt_cmpR op_eq (pv 3) pe_int (nomark _)) (pw_and1 (pt_cmpR op_eq (pe_ix ix_tup (pv 2) pe_int (fun _ _ => rfl)) (pe_ix ix_tup (pv 2) pe_int (fun _ _ => rfl)) (nomark _)))))
            (pss_one
              (ps_ret (pe_tup (pa_cons pe_str (pa_cons (pe_ix ix_tup (pv 2) pe_int (fun _ _ => rfl)) pa_nil)))))
            pss_nil)))))))
    (pss_one
      (ps_ret (pe_tup (pa_cons pe_str (pa_cons pe_non pa_nil)))))), ?_⟩
    have fin : ∀ {H' : Hp} {a : Str} {b : V}, Same H H' → (a, b) = dueR (rsf ts rows) → 2 ≤ sizeLine ∧ ∀ u, H' u = none → Q (.ref u) (upd H' u (.tup [.str a, b])) := fun {H' a b} sm e => ⟨(by show 2 ≤ sizeLine; decide), fun u hu => k u _ (sm.trans (same_upd hu)) (by rw [upd_same, ← e])⟩
    refine ⟨_, rfl, r, rfl, ⟨_, hR⟩, for_list (xs := rows.map fun (p : RR) => V.ref p.1) (fun i σ H' => Same H H' ∧ rsf ts rows = rsf ts (rows.drop i) ∧ ∃ x2 x3 x4, σ = [some (.ref t), some (.ref r), x2, x3, x4]) ⟨Same.refl H, rfl, _, _, _, rfl⟩ (fun i σ H' _ h => h.1.seq hR) ?_ ?_⟩
    · rintro i v σ H2 hi ⟨sm, re, x2, x3, x4, rfl⟩
      rw [List.getElem?_map] at hi
      obtain ⟨⟨a, l⟩, ha, rfl⟩ := Option.map_eq_some_iff.mp hi
      obtain ⟨hl, ll, lh⟩ := at_ _ (List.mem_of_getElem? ha)
      have step : rows.drop i = (a, l) :: rows.drop (i + 1) := by
        rw [← (List.getElem?_eq_some_iff.mp ha).2, List.getElem_cons_drop]
      rw [step, show rsf ts ((a, l) :: rows.drop (i + 1)) = (match rfault ts l with | some f => some (a, f) | none => rsf ts (rows.drop (i + 1))) from rfl] at re
      have hl2 := sm _ _ hl
      match l, ll, hl2, lh, re with
      | kd :: r', _, hl2, lh, re =>
      have lr : (kd :: r').length = r'.length + 1 := rfl
      refine ⟨fun σ' H' => Same H H' ∧ σ' = [some (.ref t), some (.ref r), some (.ref a), some (.int (if kd ∈ two then 2 else 3)), x4], ?_, ?_⟩
      · refine ⟨_, rfl, a, _, _, _, rfl, rfl, .of hl2, atI_nat (j := 0) rfl, (by show 2 ≤ sizeLine; decide), fun U hU => ⟨U, _, rfl, .inr (.of upd_same), rfl, rfl, _, rfl, ?_⟩⟩
        have sU := sm.trans (same_upd (o := .tup [.str ("first" : Str), .str ("last" : Str)]) hU)
        rw [show inV (V.str kd) [V.str (Str.ofString "first"), V.str (Str.ofString "last")] = decide (kd ∈ two) from inV_k kd two]
        refine ite2 (fun c => ⟨sU, ?_⟩) (fun c => ⟨sU, ?_⟩)
        · rw [if_pos (of_decide_eq_true c)]
          rfl
        · rw [if_neg fun h => c (decide_eq_true h)]
          rfl
      rintro σ H3 ⟨sm, rfl⟩
      have hl3 := sm _ _ hl
      have m2 : kd ∈ two → (if kd ∈ two then (2 : Int) else 3) = 2 := fun h => if_pos h
      have m3 : kd ∉ two → (if kd ∈ two then (2 : Int) else 3) = 3 := fun h => if_neg h
      generalize (if kd ∈ two then (2 : Int) else 3) = many at *
      have bad : shapeB (kd :: r') ≠ true → (("InvalidRule" : Str), V.ref a) = dueR (rsf ts rows) := fun h => by
        rw [re, show rfault ts (kd :: r') = some .inv from if_neg h]
        rfl
      refine ⟨_, rfl, a, _, _, _, rfl, rfl, .of hl3, atI_nat (j := 0) rfl, (by show 8 ≤ sizeLine; decide), fun U hU => ⟨U, _, rfl, .inr (.of upd_same), rfl, rfl, _, rfl, ?_⟩⟩
      have sU := sm.trans (same_upd (o := .tup [.str ("before" : Str), .str ("upto" : Str), .str ("same" : Str), .str ("apart" : Str), .str ("far" : Str), .str ("next" : Str), .str ("first" : Str), .str ("last" : Str)]) hU)
      rw [show inV (V.str kd) [V.str (Str.ofString "before"), V.str (Str.ofString "upto"), V.str (Str.ofString "same"), V.str (Str.ofString "apart"), V.str (Str.ofString "far"), V.str (Str.ofString "next"), V.str (Str.ofString "first"), V.str (Str.ofString "last")] = decide (kd ∈ eight) from inV_k kd eight]
      generalize upd H3 U (.tup [.str ("before" : Str), .str ("upto" : Str), .str ("same" : Str), .str ("apart" : Str), .str ("far" : Str), .str ("next" : Str), .str ("first" : Str), .str ("last" : Str)]) = H4 at *
      have hl4 := sU _ _ hl
      refine ite2 (fun c => ⟨_, rfl, fin sU (bad fun h => ?_)⟩) (fun c => ?_)
      · have h := of_decide_eq_true h
        have : kd ∉ eight := fun m => by
          rw [decide_eq_true m] at c
          cases c
        exact this (eight_iff.mpr (h.elim (fun q => .inl q.1) fun q => .inr q.1))
      have ink : kd ∈ two ∨ kd ∈ six := eight_iff.mp (Classical.byContradiction fun h => c (by rw [decide_eq_false h]; rfl))
      refine ⟨_, rfl, a, _, rfl, .inr (.of hl4), _, rfl, rfl, _, rfl, ite2 (fun c2 => ⟨_, rfl, fin sU (bad fun h => ?_)⟩) (fun c2 => ?_)⟩
      · have h := of_decide_eq_true h
        have ne : ¬ V.int (((kd :: r').map V.str).length : Int) = V.int many := fun e => by
          rw [decide_eq_true e] at c2
          cases c2
        refine ne ?_
        rw [List.length_map, lr]
        rcases h with ⟨h1, h2⟩ | ⟨h1, h2⟩
        · rw [m2 h1, h2]; rfl
        · rw [m3 fun q => two_six q h1, h2]; rfl
      have lm : ((r'.length + 1 : Nat) : Int) = many := by
        have : V.int (((kd :: r').map V.str).length : Int) = V.int many := Classical.byContradiction fun h => c2 (by rw [decide_eq_false h]; rfl)
        have := V.int.inj this
        rw [List.length_map, lr] at this
        exact this
      have sh : shapeB (kd :: r') = true := decide_eq_true (by
        by_cases h : kd ∈ two
        · have := m2 h
          exact .inl ⟨h, by omega⟩
        · have := m3 h
          exact .inr ⟨ink.resolve_left h, by omega⟩)
      have rf : rfault ts (kd :: r') = (match unk ts r' with
        | some z => some (.unk z)
        | none => if (kd :: r').length = 3 ∧ (kd :: r').getD 1 "" = (kd :: r').getD 2 "" then some (.same ((kd :: r').getD 1 "")) else none) := if_pos sh
      refine ⟨_, rfl, _, rfl, a, _, rfl, .of hl4, ?_, fun p hp => ⟨_, rfl, ⟨_, .of upd_same⟩, ?_⟩⟩
      · rintro ⟨h1, _⟩
        rw [show HT.sIx ((kd :: r').map V.str).length 0 (some 1) = min 1 ((kd :: r').map V.str).length from HT.sIx_nat _ _ 1, List.length_map, lr] at h1
        have : 1 ≤ r'.length := by
          by_cases h : kd ∈ two
          · have := m2 h
            omega
          · have := m3 h
            omega
        omega
      have ec : cutV ((kd :: r').map V.str) (some 1) none = r'.map V.str := cut_drop _ 1
      rw [ec] at *
      have sp := sU.trans (same_upd (o := .tup (r'.map V.str)) hp)
      have ep := upd_same (H := H4) (a := p) (o := .tup (r'.map V.str))
      generalize upd H4 p (.tup (r'.map V.str)) = H5 at *
      refine for_tup (xs := r'.map V.str) (fun j σ H' => Same H5 H' ∧ unk ts r' = unk ts (r'.drop j) ∧ ∃ y4, σ = [some (.ref t), some (.ref r), some (.ref a), some (.int many), y4]) ?_ ?_ ?_ ?_
      · exact ⟨Same.refl _, rfl, _, rfl⟩
      · rintro j σ H' _ ⟨sm, _⟩
        exact .of (sm _ _ ep)
      · rintro j x σ H6 hj ⟨s6, ue, y4, rfl⟩
        rw [List.getElem?_map] at hj
        obtain ⟨z, hz, rfl⟩ := Option.map_eq_some_iff.mp hj
        have s06 := sp.trans s6
        have stp : r'.drop j = z :: r'.drop (j + 1) := by
          rw [← (List.getElem?_eq_some_iff.mp hz).2, List.getElem_cons_drop]
        rw [stp, show unk ts (z :: r'.drop (j + 1)) = if z ∈ ts then unk ts (r'.drop (j + 1)) else some z from rfl] at ue
        refine ⟨_, rfl, _, rfl, t, _, rfl, .inl (s06.seq hT), rfl, flat_strs _, _, rfl, ?_⟩
        rw [show inV (V.str z) (ts.map V.str) = decide (z ∈ ts) from inV_str z ts]
        refine ite2 (fun d => ?_) (fun d => ?_)
        · have nz : z ∉ ts := fun h => by
            rw [decide_eq_true h] at d
            cases d
          rw [if_neg nz] at ue
          rw [ue] at rf
          exact ⟨_, rfl, fin s06 (by rw [re, rf]; rfl)⟩
        · have yz : z ∈ ts := Classical.byContradiction fun h => d (by rw [decide_eq_false h]; rfl)
          rw [if_pos yz] at ue
          exact ⟨s6, ue, _, rfl⟩
      · rintro σ H6 ⟨s6, ue, y4, rfl⟩
        have s06 := sp.trans s6
        have hl6 := s06 _ _ hl
        rw [List.length_map, List.drop_length] at ue
        rw [show unk ts [] = none from rfl] at ue
        rw [ue] at rf
        have rf : rfault ts (kd :: r') = if (kd :: r').length = 3 ∧ (kd :: r').getD 1 "" = (kd :: r').getD 2 "" then some (.same ((kd :: r').getD 1 "")) else none := rf
        refine ⟨_, rfl, rfl, _, rfl, ite2 (fun d => ?_) (fun d => ?_)⟩
        · have m3' : many = 3 := V.int.inj (of_decide_eq_true d)
          obtain ⟨x, y, rfl⟩ := len_two (show r'.length = 2 by omega)
          refine ⟨_, rfl, a, _, _, _, rfl, rfl, .of hl6, atI_nat (j := 1) rfl, _, rfl, a, _, _, _, rfl, rfl, .of hl6, atI_nat (j := 2) rfl, rfl, _, rfl, ite2 (fun e => ?_) (fun e => ?_)⟩
          · have exy : x = y := V.str.inj (of_decide_eq_true e)
            rw [if_pos ⟨rfl, exy⟩] at rf
            exact ⟨_, rfl, a, _, _, _, rfl, rfl, .of hl6, atI_nat (j := 1) rfl, fin s06 (by rw [re, rf]; rfl)⟩
          · rw [if_neg fun h => e (decide_eq_true (congrArg V.str h.2))] at rf
            rw [rf] at re
            exact ⟨s06, re, _, _, _, rfl⟩
        · rw [if_neg fun h => d (decide_eq_true (by rw [← lm]; exact congrArg V.int (by rw [← lr, h.1]; rfl)))] at rf
          rw [rf] at re
          exact ⟨s06, re, _, _, _, rfl⟩
    · rintro σ H2 ⟨sm, re, x2, x3, x4, rfl⟩
      rw [List.length_map, List.drop_length] at re
      exact fin sm (by rw [re]; rfl)
def CallIn (C : Addr) (H : Hp) (b t r : Addr) (way : Int) (ts : List Str) (own rows : List RR) : Prop := 0 ≤ way ∧ way < 4 ∧ BkO C H b ts own ∧ RowsAt H own ∧ (∀ p ∈ own, RuleOk ts p.2) ∧ H t = some (.lst (ts.map V.str)) ∧ H r = some (.lst (rows.map fun (p : RR) => V.ref p.1)) ∧ RowsAt H rows ∧ TasksOk ts ∧ own.length ≤ 400 ∧ rows.length ≤ 400
def sp_rraised (C : Addr) : Sp := fun vs H Q _ => ∃ (b t r : Addr) (way : Int) (ts : List Str) (own rows : List RR), vs = [.ref b, .ref t, .ref r, .int way] ∧ CallIn C H b t r way ts own rows ∧ ∀ u H', Same H H' → H' u = some (.tup [.str (dueR (rsf ts rows)).1, (dueR (rsf ts rows)).2]) → Q (.ref u) H'
theorem ok_law_raised (T : Tx K w mg) : FnOk P w K mg base CX0 8 T.f_law_raised T.d_law_raised ["book", "task_list", "rule_list", "way"] (sp_rraised T.C_Book) := by
  refine T.F_law_raised.ok sc_law_raised (fun vs H Q E h => ?_) (fun cdv A outer s H vs Q E hr h => ?_)
  · obtain ⟨b, t, r, way, ts, own, rows, rfl, _⟩ := h
    rfl
  · obtain ⟨b, t, r, way, ts, own, rows, rfl, ⟨w0, w4, bk, at1, ok1, ht, hr', at2, ok, f1, f2⟩, k⟩ := h
    refine ⟨_,
    (pss_cons
      (ps_set (i := 4) sc_law_raised.nd rfl (.inl rfl) pe_str)
    (pss_cons
      (ps_set (i := 5) sc_law_raised.nd rfl (.inl rfl) pe_non)
    (pss_cons
      (ps_try_each (i := 6) rfl rfl sc_law_raised.nd rfl rfl takes0 (fun W pn xe tk po =>
        (pss_one
          (ps_expr (pe_callS (ok_law_call T) hr (by rfl) T.g_law_call T.F_law_call.kp T.b_law_call (fun σ => passAt tk σ) (pa_cons (pv 0) (pa_cons (pv 1) (pa_cons (pv 2) (pa_cons (pv 3) pa_nil))))))))
      (.cons ⟨rfl, by decide, .inl T.mg_InvalidRule⟩ (fun a oe cls d pn hz hf =>
          (pss_cons
            (ps_set (i := 4) sc_law_raised.nd rfl (.inl rfl) pe_str)
          (pss_one
            (ps_set (i := 5) sc_law_raised.nd rfl (.inl rfl) (pe_xf T.xf_InvalidRule T.nv_InvalidRule hz hf (pv 6)))))) (.cons ⟨rfl, by decide, .inl T.mg_UnknownTask⟩ (fun a oe cls d pn hz hf =>
          (pss_cons
            (ps_set (i := 4) sc_law_raised.nd rfl (.inl rfl) pe_str)
          (pss_one
            (ps_set (i := 5) sc_law_raised.nd rfl (.inl rfl) (pe_xf T.xf_UnknownTask T.nv_UnknownTask hz hf (pv 6)))))) (.cons ⟨rfl, by decide, .inl T.mg_SameTask⟩ (fun a oe cls d pn hz hf =>
          (pss_cons
            (ps_set (i := 4) sc_law_raised.nd rfl (.inl rfl) pe_str)
          (pss_one
            (ps_set (i := 5) sc_law_raised.nd rfl (.inl rfl) (pe_xf T.xf_SameTask T.nv_SameTask hz hf (pv 6)))))) .nil))))
    (pss_one
      (ps_ret (pe_tup (pa_cons (pv 4) (pa_cons (pv 5) pa_nil)))))))), ?_⟩
    have fin : ∀ {H' : Hp} {a : Str} {b : V}, Same H H' → (a, b) = dueR (rsf ts rows) → 2 ≤ sizeLine ∧ ∀ u, H' u = none → Q (.ref u) (upd H' u (.tup [.str a, b])) := fun {H' a b} sm e => ⟨(by show 2 ≤ sizeLine; decide), fun u hu => k u _ (sm.trans (same_upd hu)) (by rw [upd_same, ← e])⟩
    refine ⟨_, rfl, _, rfl, _, rfl, _, rfl, b, t, r, way, ts, own, rows, rfl, w0, w4, bk, at1, ok1, ht, hr', at2, ok, f1, f2, fun a e d H' h1 h2 h3 => ?_, fun a z e d H' h1 h2 h3 => ?_, fun a z e d H' h1 h2 h3 => ?_, fun e x dx p q H' sm fp fq ex ep eq => ?_⟩
    · refine ⟨true, T.em_InvalidRule_InvalidRule, fun _ y hy => ?_, fun q => Bool.noConfusion q⟩
      exact ⟨_, rfl, rfl, rfl, d, _, .ref a, rfl, h3, by simp [List.lookup], _, rfl, _, rfl, fin h2 (by rw [e]; rfl)⟩
    · refine ⟨false, T.en_UnknownTask_InvalidRule, fun q => Bool.noConfusion q, fun _ => ⟨true, T.em_UnknownTask_UnknownTask, fun _ y hy => ?_, fun q => Bool.noConfusion q⟩⟩
      exact ⟨_, rfl, rfl, rfl, d, _, .str z, rfl, h3, by simp [List.lookup], _, rfl, _, rfl, fin h2 (by rw [e]; rfl)⟩
    · refine ⟨false, T.en_SameTask_InvalidRule, fun q => Bool.noConfusion q, fun _ => ⟨false, T.en_SameTask_UnknownTask, fun q => Bool.noConfusion q, fun _ => ⟨true, T.em_SameTask_SameTask, fun _ y hy => ?_, fun q => Bool.noConfusion q⟩⟩⟩
      exact ⟨_, rfl, rfl, rfl, d, _, .str z, rfl, h3, by simp [List.lookup], _, rfl, _, rfl, fin h2 (by rw [e]; rfl)⟩
    · exact ⟨_, rfl, _, rfl, fin sm (by rw [e]; rfl)⟩
def sp_rbased (C : Addr) : Sp := fun vs H Q _ => ∃ (b t r : Addr) (way : Int) (ts : List Str) (own rows : List RR), vs = [.ref b, .ref t, .ref r, .int way] ∧ CallIn C H b t r way ts own rows ∧ ∀ H', Same H H' → Q (.bl (!decide ((dueR (rsf ts rows)).1 = ""))) H'
theorem ok_law_based (T : Tx K w mg) : FnOk P w K mg base CX0 8 T.f_law_based T.d_law_based ["book", "task_list", "rule_list", "way"] (sp_rbased T.C_Book) := by
  refine T.F_law_based.ok sc_law_based (fun vs H Q E h => ?_) (fun cdv A outer s H vs Q E hr h => ?_)
  · obtain ⟨b, t, r, way, ts, own, rows, rfl, _⟩ := h
    rfl
  · obtain ⟨b, t, r, way, ts, own, rows, rfl, ⟨w0, w4, bk, at1, ok1, ht, hr', at2, ok, f1, f2⟩, k⟩ := h
    refine ⟨_,
    (pss_cons
      (ps_set (i := 4) sc_law_based.nd rfl (.inl rfl) pe_bl)
    (pss_cons
      (ps_try_as (i := 5) rfl rfl sc_law_based.nd rfl rfl ⟨rfl, by decide, .inl T.mg_PlanError⟩ takes0 (fun W pn xe tk po =>
        (pss_one
          (ps_expr (pe_callS (ok_law_call T) hr (by rfl) T.g_law_call T.F_law_call.kp T.b_law_call (fun σ => passAt tk σ) (pa_cons (pv 0) (pa_cons (pv 1) (pa_cons (pv 2) (pa_cons (pv 3) pa_nil))))))))
      (fun a oe cls d pn hz hf =>
        (pss_one
          (ps_set (i := 4) sc_law_based.nd rfl (.inl rfl) (pe_callB (call_isXa hz hf) (by rfl) T.m_isinstance (by decide +kernel) (pa_cons (pv 5) (pa_cons (pe_bltn (v := .ty "ValueError") (by rfl) T.m_ValueError (by decide +kernel) rfl) pa_nil)))))))
    (pss_one
      (ps_ret (pv 4))))), ?_⟩
    refine ⟨_, rfl, _, rfl, _, rfl, _, rfl, b, t, r, way, ts, own, rows, rfl, w0, w4, bk, at1, ok1, ht, hr', at2, ok, f1, f2, fun a e d H' h1 h2 h3 => ?_, fun a z e d H' h1 h2 h3 => ?_, fun a z e d H' h1 h2 h3 => ?_, fun e x dx p q H' sm fp fq ex ep eq => ?_⟩
    · refine ⟨true, T.em_InvalidRule_PlanError, fun _ y hy => ?_, fun q => Bool.noConfusion q⟩
      rw [e, show (!decide ((dueR (some (a, RF.inv))).1 = ("" : Str))) = true from by show (!decide (("InvalidRule" : Str) = "")) = true; decide +kernel] at k
      exact ⟨_, rfl, T.C_InvalidRule, T.xc_InvalidRule, d, _, V.ty "ValueError", .type "ValueError", true, rfl, rfl, h3, rfl, fun u r => r, T.kv_InvalidRule, _, rfl, k H' h2⟩
    · refine ⟨true, T.em_UnknownTask_PlanError, fun _ y hy => ?_, fun q => Bool.noConfusion q⟩
      rw [e, show (!decide ((dueR (some (a, RF.unk z))).1 = ("" : Str))) = true from by show (!decide (("UnknownTask" : Str) = "")) = true; decide +kernel] at k
      exact ⟨_, rfl, T.C_UnknownTask, T.xc_UnknownTask, d, _, V.ty "ValueError", .type "ValueError", true, rfl, rfl, h3, rfl, fun u r => r, T.kv_UnknownTask, _, rfl, k H' h2⟩
    · refine ⟨true, T.em_SameTask_PlanError, fun _ y hy => ?_, fun q => Bool.noConfusion q⟩
      rw [e, show (!decide ((dueR (some (a, RF.same z))).1 = ("" : Str))) = true from by show (!decide (("SameTask" : Str) = "")) = true; decide +kernel] at k
      exact ⟨_, rfl, T.C_SameTask, T.xc_SameTask, d, _, V.ty "ValueError", .type "ValueError", true, rfl, rfl, h3, rfl, fun u r => r, T.kv_SameTask, _, rfl, k H' h2⟩
    · rw [e, show (!decide ((dueR none).1 = ("" : Str))) = false from by show (!decide (("" : Str) = "")) = false; decide +kernel] at k
      exact ⟨_, rfl, k H' sm⟩
def signB (c : Nat) : Bool := decide (97 ≤ c) && decide (c ≤ 122)
theorem ltr_sign (c : Nat) : decide (c ∈ ltr.cps.toList) = signB c := by
  unfold signB
  rw [ltr_l, Bool.eq_iff_iff, decide_eq_true_iff, Bool.and_eq_true, decide_eq_true_iff, decide_eq_true_iff]
  simp only [List.mem_cons, List.not_mem_nil, or_false]
  omega
/-- rows whose words can be laid out -/
def RowsW (rows : List RR) : Prop := ∀ p ∈ rows, ∀ z ∈ p.2, Wz z
theorem unk_mem {ts : List Str} : ∀ {r : List Str} {z : Str}, unk ts r = some z → z ∈ r
  | [], _, h => by cases h
  | y :: r, z, h => by
    unfold unk at h
    by_cases c : y ∈ ts
    · rw [if_pos c] at h
      exact List.mem_cons_of_mem _ (unk_mem h)
    · rw [if_neg c] at h
      rw [← Option.some.inj h]
      exact List.mem_cons_self
theorem rfault_word {ts l : List Str} {z : Str} (h : rfault ts l = some (.unk z) ∨ rfault ts l = some (.same z)) : z ∈ l := by
  unfold rfault at h
  by_cases c : shapeB l = true
  · rw [if_pos c] at h
    cases u : unk ts (l.drop 1) with
    | some y =>
      rw [u] at h
      rcases h with h | h
      · have : y = z := RF.unk.inj (Option.some.inj h)
        rw [← this]
        exact List.mem_of_mem_drop (unk_mem u)
      · cases Option.some.inj h
    | none =>
      rw [u] at h
      have h : (if l.length = 3 ∧ l.getD 1 "" = l.getD 2 "" then some (RF.same (l.getD 1 "")) else none) = some (.unk z) ∨ (if l.length = 3 ∧ l.getD 1 "" = l.getD 2 "" then some (RF.same (l.getD 1 "")) else none) = some (.same z) := h
      by_cases e : l.length = 3 ∧ l.getD 1 "" = l.getD 2 ""
      · rw [if_pos e] at h
        rcases h with h | h
        · cases Option.some.inj h
        · have : l.getD 1 "" = z := RF.same.inj (Option.some.inj h)
          rw [← this, List.getD_eq_getElem?_getD, List.getElem?_eq_getElem (by omega)]
          exact List.getElem_mem _
      · rw [if_neg e] at h
        rcases h with h | h <;> cases h
  · rw [if_neg c] at h
    rcases h with h | h
    · cases Option.some.inj h
    · cases Option.some.inj h
theorem rsf_row {ts : List Str} : ∀ {rows : List RR} {a : Addr} {f : RF}, rsf ts rows = some (a, f) → ∃ l, (a, l) ∈ rows ∧ rfault ts l = some f
  | [], _, _, h => by cases h
  | (b, m) :: r, a, f, h => by
    unfold rsf at h
    cases e : rfault ts m with
    | some f' =>
      rw [e] at h
      have := Option.some.inj h
      obtain ⟨rfl, rfl⟩ := Prod.mk.inj this
      exact ⟨m, List.mem_cons_self, e⟩
    | none =>
      rw [e] at h
      obtain ⟨l, h1, h2⟩ := rsf_row h
      exact ⟨l, List.mem_cons_of_mem _ h1, h2⟩
theorem lay2 {w : Str} {d : PyData} (h1 : PyData.canLay0 (.str w) = true) (h2 : PyData.canLay0 d = true) (h3 : d.depth ≤ 3) : SeqAt.shaped (.tuple [.str w, d]) = true := by
  unfold SeqAt.shaped
  rw [Bool.and_eq_true]
  refine ⟨?_, decide_eq_true (by simp only [PyData.depth, PyData.depthAll]; omega)⟩
  show (PyData.canLay0 (.str w) && (PyData.canLay0 d && true)) = true
  rw [h1, h2]
  rfl
/-- a value that is no bool -/
theorem rdue_dp {H : Hp} {ts : List Str} {rows : List RR} (at_ : RowsAt H rows) (wz : RowsW rows) : ∃ d : List PyData, DpAll K H [.str (dueR (rsf ts rows)).1, (dueR (rsf ts rows)).2] d ∧ SeqAt.shaped (.tuple d) = true ∧ (rsf ts rows ≠ none → PyData.eqv (.tuple d) (.tuple [.str "", .none]) = false) := by
  have ne : ∀ {w : Str} {d : PyData}, (w == "") = false → PyData.eqv (.tuple [.str w, d]) (.tuple [.str "", .none]) = false := fun {w d} h => by
    show ((w == "") && _) = false
    rw [h]
    rfl
  match e : rsf ts rows with
  | none => exact ⟨[.str "", .none], .cons (.str _) (.cons .non .nil), by decide +kernel, fun h => absurd rfl h⟩
  | some (a, .inv) =>
    obtain ⟨l, h1, _⟩ := rsf_row e
    have low := lay_strs fun z hz => (wz _ h1 z hz).1
    have dep := depth_strs l
    refine ⟨[.str "InvalidRule", rdata l], .cons (.str _) (.cons (.tup (.of (at_ _ h1).1) dp_strs) .nil), lay2 (by decide +kernel) low ?_, fun _ => ne (by decide +kernel)⟩
    simp only [rdata, PyData.depth]
    omega
  | some (a, .unk z) =>
    obtain ⟨l, h1, h2⟩ := rsf_row e
    exact ⟨[.str "UnknownTask", .str z], .cons (.str _) (.cons (.str _) .nil), lay2 (by decide +kernel) (wz _ h1 z (rfault_word (.inl h2))).1 (by simp [PyData.depth]), fun _ => ne (by decide +kernel)⟩
  | some (a, .same z) =>
    obtain ⟨l, h1, h2⟩ := rsf_row e
    exact ⟨[.str "SameTask", .str z], .cons (.str _) (.cons (.str _) .nil), lay2 (by decide +kernel) (wz _ h1 z (rfault_word (.inr h2))).1 (by simp [PyData.depth]), fun _ => ne (by decide +kernel)⟩
theorem more_nd {ts : List Str} (nd : ts.Nodup) : ∀ {ns : List Str}, (∀ z ∈ ns, z ∉ ts) → ns.length ≤ 2 → (ts ++ ns.take 1 ++ (ns.drop 1).filter fun z => !decide (z = ns.getD 0 "")).Nodup
  | [], _, _ => by simpa using nd
  | [x], h, _ => by
    show (ts ++ [x] ++ []).Nodup
    rw [List.append_nil]
    exact List.nodup_append.mpr ⟨nd, by simp, fun a ha b hb e => h x List.mem_cons_self (by rw [← List.mem_singleton.mp hb, ← e]; exact ha)⟩
  | [x, y], h, _ => by
    have one : (ts ++ [x]).Nodup := List.nodup_append.mpr ⟨nd, by simp, fun a ha b hb e => h x List.mem_cons_self (by rw [← List.mem_singleton.mp hb, ← e]; exact ha)⟩
    show (ts ++ [x] ++ [y].filter fun z => !decide (z = x)).Nodup
    by_cases e : y = x
    · rw [List.filter_cons_of_neg (by rw [decide_eq_true e]; decide), List.filter_nil, List.append_nil]
      exact one
    · rw [List.filter_cons_of_pos (by rw [decide_eq_false e]; decide), List.filter_nil]
      refine List.nodup_append.mpr ⟨one, by simp, fun a ha b hb q => ?_⟩
      rw [List.mem_singleton.mp hb] at q
      rw [q] at ha
      rcases List.mem_append.mp ha with m | m
      · exact h y (List.mem_cons_of_mem _ List.mem_cons_self) m
      · exact e (List.mem_singleton.mp m)
  | _ :: _ :: _ :: _, _, h => by simp at h
def sp_later (C : Addr) : Sp := fun vs H Q _ => ∃ (d g t a : Addr) (ts l : List Str), vs = [.ref d, .ref t, .ref a] ∧ Deck H d g ∧ Lat H d g t (ts.map V.str) ∧ TasksOk ts ∧ ts.length ≤ 20 ∧ H a = some (.tup (l.map V.str)) ∧ 1 ≤ l.length ∧ l.length ≤ 8 ∧ (∀ z ∈ l, Wz z) ∧ ∀ H', Std H H' d g → Q (.bl true) H'
theorem ok_law_taken_later (T : Tx K w mg) : FnOk P w K mg base CX0 7 T.f_law_taken_later T.d_law_taken_later ["deck", "task_list", "rule"] (sp_later T.C_Book) := by
  refine T.F_law_taken_later.ok sc_law_taken_later (fun vs H Q E h => ?_) (fun cdv A outer s H vs Q E hr h => ?_)
  · obtain ⟨d, g, t, a, ts, l, rfl, _⟩ := h
    rfl
  · obtain ⟨d, g, t, a, ts, l, rfl, hD, lt, ok, tf, ha, l1, l8, wz, k⟩ := h
    refine ⟨_,
    (pss_cons
      (ps_set (i := 3) sc_law_taken_later.nd rfl (.inr rfl) (pe_lc (own := [("name", 5)]) (g := gName 5) rfl sc_law_taken_later.nd (pi_tup (pe_slice sl_tup (pv 2) (po_some pe_int) po_none)) (blkOk_by (N := ["deck", "task_list", "rule", "names", "letters", "name", "more", "sign"]) (sc := defScope s_law_taken_later) (own := [("name", 5)]) (by decide +kernel)) (fun _ _ _ _ _ => (pg_name (i := 5) sc_law_taken_later.nd rfl (.inl rfl))) (fun _ _ _ _ _ => (pts_one (pt_cmpR (r := rIn K true) op_notIn_seq (pv 5) (pv 1) (by rfl)))) (fun _ _ _ _ _ => (pv 5))))
    (pss_cons
      (ps_set (i := 4) sc_law_taken_later.nd rfl (.inr rfl) pe_str)
    (pss_cons
      (ps_for PassesOwn.never rfl (pi_list (pv 3)) (pg_name (i := 5) sc_law_taken_later.nd rfl (.inl rfl))
        (pss_one
          (ps_if (PW.pt (pw_or (pt_not (pt_chain op_le op_le pe_int (pe_callB call_len_str (by rfl) T.m_len (by decide +kernel) (pa_cons (pv 5) pa_nil)) pe_int)) (pw_or1 (pt_cmpR op_gt (pe_callB call_len_seq (by rfl) T.m_len (by decide +kernel) (pa_cons (pe_lc (own := [("sign", 7)]) (g := gName 7) rfl sc_law_taken_later.nd (pi_str (pv 5)) (blkOk_by (N := ["deck", "task_list", "rule", "names", "letters", "name", "more", "sign"]) (sc := defScope s_law_taken_later) (own := [("sign", 7)]) (by decide +kernel)) (fun _ _ _ _ _ => (pg_name (i := 7) sc_law_taken_later.nd rfl (.inl rfl))) (fun _ _ _ _ _ => (pts_one (pt_cmpR op_notInS (pv 7) (pv 4) (by rfl)))) (fun _ _ _ _ _ => (pv 7))) pa_nil)) pe_int (nomark _)))))
            (pss_one
              (ps_ret pe_bl))
            pss_nil)))
    (pss_cons
      (ps_set (i := 6) sc_law_taken_later.nd rfl (.inl rfl) (pe_op op_cat (pe_op op_cat (pv 1) (pe_slice sl_list (pv 3) po_none (po_some pe_int))) (pe_lc (own := [("name", 5)]) (g := gName 5) rfl sc_law_taken_later.nd (pi_list (pe_slice sl_list (pv 3) (po_some pe_int) po_none)) (blkOk_by (N := ["deck", "task_list", "rule", "names", "letters", "name", "more", "sign"]) (sc := defScope s_law_taken_later) (own := [("name", 5)]) (by decide +kernel)) (fun _ _ _ _ _ => (pg_name (i := 5) sc_law_taken_later.nd rfl (.inl rfl))) (fun _ _ _ _ _ => (pts_one (pt_cmpR op_ne (pv 5) (pe_ix (r := rIxL K) ix_list (pv 3) pe_int (fun _ _ => rfl)) (nomark _)))) (fun _ _ _ _ _ => (pv 5)))))
    (pss_cons
      (ps_if (pt_cmpR (op_neD hr.units) (pe_call (ok_law_rule_due T) (hr.mono (by decide)) (by rfl) T.g_law_rule_due T.F_law_rule_due.kp T.b_law_rule_due .nil pass0 (pa_cons (pv 6) (pa_cons (pe_lst (pa_cons (pv 2) pa_nil)) pa_nil))) (pe_tup (pa_cons pe_str (pa_cons pe_non pa_nil))) (nomark _))
        (pss_one
          (ps_ret pe_bl))
        pss_nil)
    (pss_one
      (ps_ret (pe_call (ok_law_shows T) (hr.mono (by decide)) (by rfl) T.g_law_shows T.F_law_shows.kp T.b_law_shows .nil pass0 (pa_cons (pv 0) (pa_cons (pe_meth (pe_make T.mk_Book (ok_Book_init T) (hr.mono (by decide)) (by rfl) T.mg_Book T.b_Book_init .nil passL (pa_cons (pv 6) (pa_cons (pe_lst pa_nil) pa_nil))) T.cl_Book T.me_Book_with_rules (ok_Book_with_rules T) hr T.b_Book_with_rules .nil passL (pa_cons (pe_lst (pa_cons (pv 2) pa_nil)) pa_nil)) (pa_cons (pv 6) (pa_cons (pe_lst (pa_cons (pv 2) pa_nil)) pa_nil)))))))))))), ?_⟩
    refine ⟨_, rfl, _, rfl, a, _, rfl, .of ha, ?_, fun p hp => ⟨_, rfl, ⟨_, .of upd_same⟩, ?_⟩⟩
    · rintro ⟨h1, _⟩
      rw [show HT.sIx (l.map V.str).length 0 (some 1) = min 1 (l.map V.str).length from HT.sIx_nat _ _ 1, List.length_map] at h1
      omega
    rw [show cutV (l.map V.str) (some 1) none = (l.drop 1).map V.str from by rw [show (some (1 : Int)) = some ((1 : Nat) : Int) from rfl, cut_drop, List.map_drop]]
    have sp := same_upd (o := .tup ((l.drop 1).map V.str)) hp
    have ep := upd_same (H := H) (a := p) (o := .tup ((l.drop 1).map V.str))
    have hD1 := hD.same sp
    generalize upd H p (.tup ((l.drop 1).map V.str)) = H1 at *
    refine fun D hDn => ?_
    have dD := hD1.new hDn
    have lt1 := lt.keep (Same.kd sp)
    have dl : (l.drop 1).length ≤ 7 := by rw [List.length_drop]; omega
    refine lc_tup (xs := (l.drop 1).map V.str) (fun i H' => H' D = some (.lst ((((l.drop 1).take i).filter fun z => decide (z ∉ ts)).map V.str)) ∧ Same H1 H') ⟨upd_same, same_upd hDn⟩ (fun i H' _ h => .of (h.2 _ _ ep)) ?_ ?_
    · rintro i v H2 hi ⟨eD, s2⟩
      have hil := (List.getElem?_eq_some_iff.mp hi).1
      rw [List.length_map] at hil
      rw [List.getElem?_map] at hi
      obtain ⟨z, hz, rfl⟩ := Option.map_eq_some_iff.mp hi
      have et : (l.drop 1).take (i + 1) = (l.drop 1).take i ++ [z] := by rw [List.take_add_one, hz]; rfl
      refine ⟨rfl, _, rfl, _, rfl, t, _, rfl, .inl (.of (s2 _ _ lt1.at_)), rfl, flat_strs _, _, rfl, ?_⟩
      rw [show inV (V.str z) (ts.map V.str) = decide (z ∈ ts) from inV_str z ts]
      refine ite2 (fun c => ?_) (fun c => ?_)
      · have c2 : z ∉ ts := fun h => by
          rw [decide_eq_true h] at c
          cases c
        refine ⟨_, rfl, _, eD, ?_, ?_, fun b o e => ?_⟩
        · rw [List.length_map]
          refine small1000 (Nat.le_trans (List.length_filter_le _ _) ?_)
          rw [List.length_take]
          omega
        · rw [upd_same, et, List.filter_append, List.map_append]
          have : List.filter (fun z => decide (z ∉ ts)) [z] = [z] := List.filter_cons_of_pos (p := fun z => decide (z ∉ ts)) (decide_eq_true c2)
          rw [this]
          rfl
        · rw [upd_ne (ne_of_none e hDn)]
          exact s2 b o e
      · have c2 : z ∈ ts := Classical.byContradiction fun h => c (by rw [decide_eq_false h]; rfl)
        refine ⟨?_, s2⟩
        rw [eD, et, List.filter_append]
        have : List.filter (fun z => decide (z ∉ ts)) [z] = [] := List.filter_cons_of_neg (p := fun z => decide (z ∉ ts)) (by rw [decide_eq_true_iff]; exact fun h => h c2)
        rw [this, List.append_nil]
    rintro H2 ⟨eD, s2⟩
    rw [List.length_map, List.take_length] at eD
    have nl : ((l.drop 1).filter fun z => decide (z ∉ ts)).length ≤ 7 := Nat.le_trans (List.length_filter_le _ _) dl
    have nl2 : ((l.drop 1).filter fun z => decide (z ∉ ts)).length ≤ l.length - 1 := Nat.le_trans (List.length_filter_le _ _) (by rw [List.length_drop]; exact Nat.le_refl _)
    have nw : ∀ z ∈ (l.drop 1).filter fun z => decide (z ∉ ts), Wz z ∧ z ∉ ts := fun z hz => by
      obtain ⟨h1, h2⟩ := List.mem_filter.mp hz
      exact ⟨wz z (List.mem_of_mem_drop h1), of_decide_eq_true h2⟩
    have hsub : ∀ z ∈ l.drop 1, z ∈ ts ∨ z ∈ (l.drop 1).filter fun z => decide (z ∉ ts) := fun z hz => by
      by_cases c : z ∈ ts
      · exact .inl c
      · exact .inr (List.mem_filter.mpr ⟨hz, decide_eq_true c⟩)
    generalize (l.drop 1).filter (fun z => decide (z ∉ ts)) = ns at *
    have s12 : Std H H2 d g := ((Std.refl hD).same sp).same s2
    have lD : Lat H2 d g D (ns.map V.str) := ⟨eD, dD.1, dD.2⟩
    have lt2 := lt.keep s12.kd
    have ha2 := s2 _ _ (sp _ _ ha)
    clear eD s2 dD hDn lt1 hD1 ep sp hp
    -- the names
    refine ⟨_, rfl, D, rfl, ⟨_, .of lD.at_⟩, for_list (xs := ns.map V.str) (fun i σ H' => Same H2 H' ∧ (∀ z ∈ ns.take i, Nm z) ∧ ∃ y5 y7, σ = [some (.ref d), some (.ref t), some (.ref a), some (.ref D), some (.str ltr), y5, none, y7]) ⟨Same.refl _, fun z h => by simp at h, _, _, rfl⟩ (fun i σ H' _ h => .of (h.1 _ _ lD.at_)) ?_ ?_⟩
    · rintro i v σ H3 hi ⟨s3, nm, y5, y7, rfl⟩
      rw [List.getElem?_map] at hi
      obtain ⟨z, hz, rfl⟩ := Option.map_eq_some_iff.mp hi
      have zl := (nw z (List.mem_of_getElem? hz)).1.2
      have line : z.length ≤ sizeLine := Nat.le_of_lt (small1000 (by omega))
      have s13 := s12.same s3
      have tk1 : ns.take (i + 1) = ns.take i ++ [z] := by rw [List.take_add_one, hz]; rfl
      refine ⟨_, rfl, z, rfl, line, _, _, rfl, rfl, _, rfl, ite2 (fun c1 => ⟨_, _, rfl, rfl, _, rfl, ite2 (fun c2 => k _ s13) (fun c2 => ?_)⟩) (fun c1 => ⟨_, rfl, k _ s13⟩)⟩
      have p1 : 1 ≤ (z.length : Int) := of_decide_eq_true c1
      have p2 : (z.length : Int) ≤ 8 := Classical.byContradiction fun h => c2 (by rw [decide_eq_false h]; rfl)
      refine ⟨_, rfl, z, rfl, fun D2 hD2 => ?_⟩
      refine lc_str (fun i H' => i ≤ z.length ∧ H' D2 = some (.lst ((((z.cps.toList.take i).filter fun c => !signB c).map one).map V.str)) ∧ Same H3 H') ?_ ?_ ?_
      · exact ⟨Nat.zero_le _, upd_same, same_upd hD2⟩
      · rintro j c H4 hc ⟨hj, eD, sm⟩
        have hc' : z.cps.toList[j]? = some c := by simpa using hc
        have hil : j < z.length := by
          have : j < z.cps.toList.length := (List.getElem?_eq_some_iff.mp hc').1
          rw [len_l]
          exact this
        have tk2 : z.cps.toList.take (j + 1) = z.cps.toList.take j ++ [c] := by rw [List.take_add_one, hc']; rfl
        refine ⟨rfl, _, rfl, _, rfl, c, ltr, rfl, rfl, _, rfl, ?_⟩
        rw [ltr_sign]
        refine ite2 (fun d1 => ⟨_, rfl, _, eD, ?_, hil, ?_, fun b o e => ?_⟩) (fun d1 => ⟨hil, ?_, sm⟩)
        · rw [List.length_map, List.length_map]
          refine small1000 (Nat.le_trans (List.length_filter_le _ _) ?_)
          rw [List.length_take]
          omega
        · rw [upd_same, tk2, List.filter_append, show [c].filter (fun c => !signB c) = [c] from List.filter_cons_of_pos (p := fun c => !signB c) d1, List.map_append, List.map_append]
          rfl
        · rw [upd_ne (ne_of_none e hD2)]; exact sm b o e
        · rw [tk2, List.filter_append, show [c].filter (fun c => !signB c) = [] from List.filter_cons_of_neg (p := fun c => !signB c) d1, List.append_nil]
          exact eD
      · rintro H4 ⟨_, eD, sm⟩
        rw [List.take_of_length_le (by simp)] at eD
        refine ⟨D2, _, rfl, .inl (.of eD), _, _, rfl, rfl, _, rfl, ite2 (fun c3 => k _ (s13.same sm)) (fun c3 => ?_)⟩
        rw [List.length_map, List.length_map] at c3
        have h0 : (z.cps.toList.filter fun c => !signB c).length = 0 := by
          have : ¬ (0 : Int) < ((z.cps.toList.filter fun c => !signB c).length : Nat) := fun h => c3 (decide_eq_true h)
          omega
        have low : ∀ c ∈ z.cps.toList, 97 ≤ c ∧ c ≤ 122 := fun c hc => by
          have h1 := List.filter_eq_nil_iff.mp (List.length_eq_zero_iff.mp h0) c hc
          have h2 : signB c = true := by simpa using h1
          unfold signB at h2
          rw [Bool.and_eq_true, decide_eq_true_iff, decide_eq_true_iff] at h2
          exact h2
        refine ⟨s3.trans sm, fun y hy => ?_, _, _, rfl⟩
        rw [tk1] at hy
        rcases List.mem_append.mp hy with h | h
        · exact nm y h
        · rw [List.mem_singleton.mp h]
          exact ⟨by omega, by omega, low⟩
    rintro σ H3 ⟨s3, nm, y5, y7, rfl⟩
    rw [List.length_map, List.take_length] at nm
    have s13 := s12.same s3
    have lt3 := lt.keep s13.kd
    have lD3 := lD.keep (Same.kd s3)
    have ha3 := s3 _ _ ha2
    clear lt2 lD ha2 s3 s12
    -- more
    refine ⟨_, rfl, _, rfl, _, rfl, D, _, rfl, .of lD3.at_, fun G hG => ?_⟩
    rw [show cutV (ns.map V.str) none (some 1) = (ns.take 1).map V.str from by rw [show (some (1 : Int)) = some ((1 : Nat) : Int) from rfl, cut_take, List.map_take]]
    have y1 := same_upd (o := .lst ((ns.take 1).map V.str)) hG
    have eG := upd_same (H := H3) (a := G) (o := .lst ((ns.take 1).map V.str))
    generalize upd H3 G (.lst ((ns.take 1).map V.str)) = H4 at *
    have l1' : (ns.take 1).length ≤ 1 := by rw [List.length_take]; omega
    refine ⟨t, G, _, _, rfl, rfl, y1 _ _ lt3.at_, eG, ?_, fun U hU => ?_⟩
    · rw [List.length_map, List.length_map]; exact Nat.le_of_lt (small1000 (by omega))
    have y2 := y1.trans (same_upd (o := .lst (ts.map V.str ++ (ns.take 1).map V.str)) hU)
    have eU := upd_same (H := H4) (a := U) (o := .lst (ts.map V.str ++ (ns.take 1).map V.str))
    generalize upd H4 U (.lst (ts.map V.str ++ (ns.take 1).map V.str)) = H5 at *
    refine ⟨_, rfl, _, rfl, D, _, rfl, .of (y2 _ _ lD3.at_), fun G2 hG2 => ?_⟩
    rw [show cutV (ns.map V.str) (some 1) none = (ns.drop 1).map V.str from by rw [show (some (1 : Int)) = some ((1 : Nat) : Int) from rfl, cut_drop, List.map_drop]]
    have y3 := y2.trans (same_upd (o := .lst ((ns.drop 1).map V.str)) hG2)
    have eG2 := upd_same (H := H5) (a := G2) (o := .lst ((ns.drop 1).map V.str))
    have eU3 := same_upd (o := .lst ((ns.drop 1).map V.str)) hG2 _ _ eU
    generalize upd H5 G2 (.lst ((ns.drop 1).map V.str)) = H6 at *
    refine ⟨G2, rfl, ⟨_, .of eG2⟩, fun D2 hD2 => ?_⟩
    have dl' : (ns.drop 1).length ≤ 7 := by rw [List.length_drop]; omega
    refine lc_list (xs := (ns.drop 1).map V.str) (fun i H' => H' D2 = some (.lst ((((ns.drop 1).take i).filter fun z => !decide (z = ns.getD 0 "")).map V.str)) ∧ Same H6 H') ⟨upd_same, same_upd hD2⟩ (fun i H' _ h => .of (h.2 _ _ eG2)) ?_ ?_
    · rintro i v H7 hi ⟨eD, s7⟩
      have hil := (List.getElem?_eq_some_iff.mp hi).1
      rw [List.length_map] at hil
      rw [List.getElem?_map] at hi
      obtain ⟨z, hz, rfl⟩ := Option.map_eq_some_iff.mp hi
      have et : (ns.drop 1).take (i + 1) = (ns.drop 1).take i ++ [z] := by rw [List.take_add_one, hz]; rfl
      have n0 : 0 < ns.length := by
        rw [List.length_drop] at hil
        omega
      have g0 : ns[0]? = some (ns.getD 0 "") := by rw [List.getD_eq_getElem?_getD, List.getElem?_eq_getElem n0]; rfl
      refine ⟨rfl, _, rfl, _, rfl, D, _, _, V.str (ns.getD 0 ""), rfl, rfl, .of (s7 _ _ (y3 _ _ lD3.at_)), atI_nat (j := 0) (by rw [List.getElem?_map, g0]; rfl), rfl, _, rfl, ?_⟩
      rw [show decide (V.str z = V.str (ns.getD 0 "")) = decide (z = ns.getD 0 "") from decide_eq_decide.mpr ⟨fun h => V.str.inj h, fun h => congrArg V.str h⟩]
      refine ite2 (fun c => ⟨_, rfl, _, eD, ?_, ?_, fun b o e => ?_⟩) (fun c => ⟨?_, s7⟩)
      · rw [List.length_map]
        refine small1000 (Nat.le_trans (List.length_filter_le _ _) ?_)
        rw [List.length_take]
        omega
      · rw [upd_same, et, List.filter_append, List.map_append, show List.filter (fun z => !decide (z = ns.getD 0 "")) [z] = [z] from List.filter_cons_of_pos (p := fun z => !decide (z = ns.getD 0 "")) c]
        rfl
      · rw [upd_ne (ne_of_none e hD2)]
        exact s7 b o e
      · rw [eD, et, List.filter_append, show List.filter (fun z => !decide (z = ns.getD 0 "")) [z] = [] from List.filter_cons_of_neg (p := fun z => !decide (z = ns.getD 0 "")) c, List.append_nil]
    rintro H7 ⟨eD2, s7⟩
    rw [List.length_map, List.take_length] at eD2
    have fl1 : ((ns.drop 1).filter fun z => !decide (z = ns.getD 0 "")).length ≤ 7 := Nat.le_trans (List.length_filter_le _ _) dl'
    refine ⟨U, D2, _, _, rfl, rfl, s7 _ _ eU3, eD2, ?_, fun V1 hV => ?_⟩
    · rw [List.length_append, List.length_map, List.length_map, List.length_map]; exact Nat.le_of_lt (small1000 (by omega))
    have y4 := (y3.trans s7).trans (same_upd (o := .lst (ts.map V.str ++ (ns.take 1).map V.str ++ ((ns.drop 1).filter fun z => !decide (z = ns.getD 0 "")).map V.str)) hV)
    have eV : (upd H7 V1 (.lst (ts.map V.str ++ (ns.take 1).map V.str ++ ((ns.drop 1).filter fun z => !decide (z = ns.getD 0 "")).map V.str))) V1 = some (.lst ((ts ++ ns.take 1 ++ (ns.drop 1).filter fun z => !decide (z = ns.getD 0 "")).map V.str)) := by
      rw [upd_same, List.map_append, List.map_append]
    have dV := (s13.same (y3.trans s7)).dk.new hV
    generalize upd H7 V1 (.lst (ts.map V.str ++ (ns.take 1).map V.str ++ ((ns.drop 1).filter fun z => !decide (z = ns.getD 0 "")).map V.str)) = H8 at *
    have s18 := s13.same y4
    have ha8 := y4 _ _ ha3
    have lV : Lat H8 d g V1 ((ts ++ ns.take 1 ++ (ns.drop 1).filter fun z => !decide (z = ns.getD 0 "")).map V.str) := ⟨eV, dV.1, dV.2⟩
    clear eV dV hV y4 y3 y2 y1 eD2 s7 hD2 eG2 eU3 hG2 eU hU eG hG lD3 s13
    have mw : ∀ z ∈ ts ++ ns.take 1 ++ (ns.drop 1).filter fun z => !decide (z = ns.getD 0 ""), Nm z := fun z hz => by
      rcases List.mem_append.mp hz with h | h
      · rcases List.mem_append.mp h with h | h
        · exact ok.nm z h
        · exact nm z (List.mem_of_mem_take h)
      · exact nm z (List.mem_of_mem_drop (List.mem_filter.mp h).1)
    have ml : (ts ++ ns.take 1 ++ (ns.drop 1).filter fun z => !decide (z = ns.getD 0 "")).length ≤ 40 := by
      rw [List.length_append, List.length_append]; omega
    have mne : (ts ++ ns.take 1 ++ (ns.drop 1).filter fun z => !decide (z = ns.getD 0 "")) ≠ [] := fun h => ok.ne (by
      rw [List.append_assoc] at h
      exact (List.append_eq_nil_iff.mp h).1)
    have mnd : l.length ≤ 3 → (ts ++ ns.take 1 ++ (ns.drop 1).filter fun z => !decide (z = ns.getD 0 "")).Nodup := fun h3 => more_nd ok.nd (fun z hz => (nw z hz).2) (by omega)
    generalize (ts ++ ns.take 1 ++ (ns.drop 1).filter fun z => !decide (z = ns.getD 0 "")) = more at *
    clear hsub nl2 nl nw nm l1' dl' fl1 dl
    refine ⟨_, rfl, _, rfl, (by show 1 ≤ sizeLine; decide), fun R hR => ?_⟩
    have y1 := same_upd (o := .lst [.ref a]) hR
    have eR := upd_same (H := H8) (a := R) (o := .lst [.ref a])
    generalize upd H8 R (.lst [.ref a]) = H9 at *
    have rat : RowsAt H9 [(a, l)] := fun q hq => by
      rw [List.mem_singleton.mp hq]
      exact ⟨y1 _ _ ha8, l1, by show l.length ≤ 100; omega⟩
    have rw1 : RowsW [(a, l)] := fun q hq => by
      rw [List.mem_singleton.mp hq]
      exact wz
    refine ⟨V1, R, more, [(a, l)], rfl, .of (y1 _ _ lV.at_), .of eR, rat, fun w H10 y2 ew => ⟨(by show 2 ≤ sizeLine; decide), fun x hx => ?_⟩⟩
    have y12 := y1.trans y2
    have y3 := same_upd (o := .tup [.str ("" : Str), .non]) hx
    have ex := upd_same (H := H10) (a := x) (o := .tup [.str ("" : Str), .non])
    generalize upd H10 x (.tup [.str ("" : Str), .non]) = H11 at *
    have y13 := y12.trans y3
    have s11 := s18.same y13
    obtain ⟨dd, dp, dok, dne⟩ := rdue_dp (K := K) (ts := more) (H := H11) (rat.keep (Same.tk (y2.trans y3))) rw1
    refine ⟨.tuple dd, .tuple [.str "", .none], .tup (.of (y3 _ _ ew)) dp, .tup (.of ex) (.cons (.str _) (.cons .non .nil)), dok, by decide +kernel, _, rfl, ite2 (fun c => k _ s11) (fun c => ?_)⟩
    have rn : rsf more [(a, l)] = none := Classical.byContradiction fun h => c (by rw [dne h]; rfl)
    have lok : RuleOk more l := rsf_none rn (a, l) List.mem_cons_self
    have l3 : l.length ≤ 3 := by
      rcases lok with ⟨_, _, _, _, rfl⟩ | ⟨_, _, _, _, _, _, _, rfl⟩ <;> simp
    have mok : TasksOk more := ⟨mne, mw, mnd l3, by omega⟩
    have lV11 := lV.keep (Same.kd y13)
    have ha11 := y13 _ _ ha8
    clear dd dp dok dne c ex y13 y3 y2 y12 y1 eR rat hR hx lV ha8 s18
    -- shown
    refine ⟨_, rfl, _, rfl, Nat.zero_le _, fun Z hZ => ?_⟩
    have y1 := same_upd (o := .lst []) hZ
    have eZ := upd_same (H := H11) (a := Z) (o := .lst [])
    generalize upd H11 Z (.lst []) = H12 at *
    have s12 := s11.same y1
    have lV12 := lV11.keep (Same.kd y1)
    refine mkR (rows := []) (Same.refl H12) lV12.at_ eZ mok (fun q hq => absurd hq List.not_mem_nil) ?_
    refine ⟨fun a (e : rsf more [] = some (a, RF.inv)) => (by cases e), fun a z (e : rsf more [] = some (a, RF.unk z)) => (by cases e), fun a z (e : rsf more [] = some (a, RF.same z)) => (by cases e), fun _ b bx p q H13 sm fp fq eb ep eq => ?_⟩
    have s13 := s12.same sm
    have ha13 := sm _ _ (y1 _ _ ha11)
    refine ⟨b, bx, _, rfl, eb, fl_with p q, _, rfl, (by show 1 ≤ sizeLine; decide), fun R2 hR2 => ?_⟩
    have y2 := same_upd (o := .lst [.ref a]) hR2
    have eR2 := upd_same (H := H13) (a := R2) (o := .lst [.ref a])
    generalize upd H13 R2 (.lst [.ref a]) = H14 at *
    have s14 := s13.same y2
    have rat : RowsAt H14 [(a, l)] := fun q hq => by
      rw [List.mem_singleton.mp hq]
      exact ⟨y2 _ _ ha13, l1, by show l.length ≤ 100; omega⟩
    refine ⟨b, R2, more, [], [(a, l)], rfl, ⟨bx, p, q, y2 _ _ eb, y2 _ _ ep, y2 _ _ eq⟩, fun q hq => absurd hq List.not_mem_nil, fun q hq => absurd hq List.not_mem_nil, eR2, rat, mok, Nat.zero_le _, by show 1 ≤ 400; decide, fun a' e => (by rw [rn] at e; cases e), fun a' z e => (by rw [rn] at e; cases e), fun a' z e => (by rw [rn] at e; cases e), fun _ b2 bx2 p2 q2 H15 sm2 fp2 fq2 eb2 ep2 eq2 => ?_⟩
    have s15 := s14.same sm2
    have lV15 := lV12.keep (Same.kd ((sm.trans y2).trans sm2))
    have ha15 := sm2 _ _ (y2 _ _ ha13)
    refine ⟨_, rfl, _, rfl, (by show 1 ≤ sizeLine; decide), fun R3 hR3 => ?_⟩
    have y3 := same_upd (o := .lst [.ref a]) hR3
    have lR3 : Lat (upd H15 R3 (.lst [.ref a])) d g R3 ([a].map V.ref) := Lat.new s15.dk hR3
    generalize upd H15 R3 (.lst [.ref a]) = H16 at *
    have s16 := s15.same y3
    have rls : Rls more H16 [a] [l] := .cons (y3 _ _ ha15) lok .nil
    exact ⟨d, g, b2, V1, R3, more, [l], rfl, s16.dk, ⟨bx2, p2, q2, y3 _ _ eb2, ⟨y3 _ _ ep2, (s14.dk.new fp2).1, (s14.dk.new fp2).2⟩, [a], ⟨y3 _ _ eq2, (s14.dk.new fq2).1, (s14.dk.new fq2).2⟩, rls⟩, lV15.keep (Same.kd y3), ⟨[a], lR3, rls⟩, mok, by show 1 ≤ 1000; decide, fun H17 s17 => k _ (s16.trans s17)⟩
/-! ### the law -/
theorem Rls.rows {ts : List Str} {H : Hp} : ∀ {as : List Addr} {ls : List (List Str)}, Rls ts H as ls → ∃ rows : List RR, rows.map Prod.fst = as ∧ rows.map Prod.snd = ls ∧ RowsAt H rows ∧ ∀ p ∈ rows, RuleOk ts p.2
  | _, _, .nil => ⟨[], rfl, rfl, fun p h => absurd h List.not_mem_nil, fun p h => absurd h List.not_mem_nil⟩
  | _, _, @Rls.cons _ _ a l as ls h n r => by
    obtain ⟨rows, h1, h2, h3, h4⟩ := r.rows
    have len := rule_len n
    refine ⟨(a, l) :: rows, by rw [List.map_cons, h1], by rw [List.map_cons, h2], fun p hp => ?_, fun p hp => ?_⟩
    · rcases List.mem_cons.mp hp with e | e
      · rw [e]; exact ⟨h, by show 1 ≤ l.length; omega, by show l.length ≤ 100; omega⟩
      · exact h3 p e
    · rcases List.mem_cons.mp hp with e | e
      · rw [e]; exact n
      · exact h4 p e
theorem rows_rls {ts : List Str} {H : Hp} : ∀ {rows : List RR}, RowsAt H rows → (∀ p ∈ rows, RuleOk ts p.2) → Rls ts H (rows.map Prod.fst) (rows.map Prod.snd)
  | [], _, _ => .nil
  | (a, l) :: r, h, k => .cons (h _ List.mem_cons_self).1 (k _ List.mem_cons_self) (rows_rls (fun p hp => h p (List.mem_cons_of_mem _ hp)) fun p hp => k p (List.mem_cons_of_mem _ hp))
theorem rows_ref (rows : List RR) : (rows.map Prod.fst).map V.ref = rows.map fun (p : RR) => V.ref p.1 := by rw [List.map_map]; rfl
def wdataR (rows : List RR) : PyData := .list (rows.map fun (p : RR) => rdata p.2)
theorem rows_dp {H : Hp} : ∀ {rows : List RR}, RowsAt H rows → DpAll K H (rows.map fun (p : RR) => V.ref p.1) (rows.map fun (p : RR) => rdata p.2)
  | [], _ => .nil
  | (a, l) :: r, h => .cons (.tup (.of (h _ List.mem_cons_self).1) dp_strs) (rows_dp fun p hp => h p (List.mem_cons_of_mem _ hp))
theorem rows_lay : ∀ {rows : List RR}, RowsW rows → PyData.canLayAll0 (rows.map fun (p : RR) => rdata p.2) = true
  | [], _ => rfl
  | (a, l) :: r, h => by
    show (PyData.canLayAll0 (l.map PyData.str) && PyData.canLayAll0 (r.map fun (p : RR) => rdata p.2)) = true
    rw [lay_strs fun z hz => (h _ List.mem_cons_self z hz).1, rows_lay fun p hp => h p (List.mem_cons_of_mem _ hp)]
    rfl
theorem rows_deep : ∀ rows : List RR, PyData.depthAll (rows.map fun (p : RR) => rdata p.2) ≤ 2
  | [] => by simp [PyData.depthAll]
  | (a, l) :: r => by
    have h1 := rows_deep r
    have h2 := depth_strs l
    show PyData.depthAll (PyData.tuple (l.map PyData.str) :: r.map fun (p : RR) => rdata p.2) ≤ 2
    simp only [PyData.depthAll, PyData.depth]
    omega
theorem rows_ok {rows : List RR} (h : RowsW rows) : SeqAt.shaped (wdataR rows) = true := by
  unfold SeqAt.shaped
  rw [Bool.and_eq_true]
  have h2 := rows_deep rows
  exact ⟨rows_lay h, decide_eq_true (by simp only [wdataR, PyData.depth]; omega)⟩
theorem eqv_self {d : PyData} (h : SeqAt.shaped d = true) : (!PyData.eqv d d) = false := by
  rw [show PyData.eqv d d = true from SeqAt.eqv_refl _ (SeqAt.canLay_of_shaped h)]
  rfl
theorem ins_mem {α : Type} {xs : List α} {y z : α} {i : Nat} (h : z ∈ xs.take i ++ [y] ++ xs.drop i) : z ∈ xs ∨ z = y := by
  rcases List.mem_append.mp h with h | h
  · rcases List.mem_append.mp h with h | h
    · exact .inl (List.mem_of_mem_take h)
    · exact .inr (List.mem_singleton.mp h)
  · exact .inl (List.mem_of_mem_drop h)
theorem ins_len {α : Type} {xs : List α} {y : α} {i : Nat} (h : i ≤ xs.length) : (xs.take i ++ [y] ++ xs.drop i).length = xs.length + 1 := by
  rw [List.length_append, List.length_append, List.length_take, List.length_drop, List.length_singleton]
  omega
def spLaw (K : PySem.W.Frag) : Sp := fun vs H Q _ => ∃ (a : Addr) (ns : List Int), vs = [.ref a] ∧ SqL K H a (ns.map V.int) ∧ ns.length ≤ 63 ∧ ∀ H', Q (.bl true) H'
set_option maxHeartbeats 3200000 in
theorem ok_law (T : Tx K w mg) : FnOk P w K mg base CX0 9 T.f_law T.d_law ["script"] (spLaw K) := by
  refine T.F_law.ok sc_law (fun vs H Q E h => ?_) (fun cdv A outer s H vs Q E hr h => ?_)
  · obtain ⟨a, ns, rfl, _⟩ := h
    rfl
  · obtain ⟨a, ns, rfl, hS, hl, k⟩ := h
    refine ⟨_,
    (pss_cons
      (ps_set (i := 1) sc_law.nd rfl (.inr rfl) (pe_call (ok_law_deck T) (hr.mono (by decide)) (by rfl) T.g_law_deck T.F_law_deck.kp T.b_law_deck .nil pass0 (pa_cons (pv 0) pa_nil)))
    (pss_cons
      (ps_for PassesOwn.never rfl (pi_range1 (by rfl) T.m_range (pa_cons (pe_op op_add pe_int (pe_call (ok_law_draw T) (hr.mono (by decide)) (by rfl) T.g_law_draw T.F_law_draw.kp T.b_law_draw .nil pass0 (pa_cons (pv 1) (pa_cons pe_int pa_nil)))) pa_nil)) (pg_name (i := 2) sc_law.nd rfl (.inl rfl))
        (pss_cons
          (ps_asg (pe_call (ok_law_data T) (hr.mono (by decide)) (by rfl) T.g_law_data T.F_law_data.kp T.b_law_data .nil pass0 (pa_cons (pv 1) (pa_cons pe_int (pa_cons pe_int pa_nil)))) (pg_tup (by rfl) (pgs_cons (pg_name (i := 3) sc_law.nd rfl (.inr rfl)) (pgs_cons (pg_name (i := 4) sc_law.nd rfl (.inl rfl)) pgs_nil))))
        (pss_cons
          (ps_set (i := 5) sc_law.nd rfl (.inl rfl) (pe_make T.mk_Book (ok_Book_init T) (hr.mono (by decide)) (by rfl) T.mg_Book T.b_Book_init .nil passL (pa_cons (pv 3) (pa_cons (pv 4) pa_nil))))
        (pss_cons
          (ps_setLc (i := 6) (own := [("m", 15)]) (g := gName 15) rfl sc_law.nd rfl rfl (sw_true rfl rfl rfl (by decide +kernel)) (pi_range1 (by rfl) T.m_range (pa_cons (pe_call (ok_law_draw T) (hr.mono (by decide)) (by rfl) T.g_law_draw T.F_law_draw.kp T.b_law_draw .nil pass0 (pa_cons (pv 1) (pa_cons pe_int pa_nil))) pa_nil)) (blkOk_by (N := ["script", "deck", "k", "task_list", "own", "book", "rule_list", "bad", "rule", "due", "way", "names", "given", "expected", "made", "m"]) (sc := defScope s_law) (own := [("m", 15)]) (by decide +kernel)) (fun _ _ _ _ _ => (pg_name (i := 15) sc_law.nd rfl (.inl rfl))) (fun _ _ _ _ _ => pts_nil) (fun _ _ _ _ _ => (pe_call (ok_law_rule T) (hr.mono (by decide)) (by rfl) T.g_law_rule T.F_law_rule.kp T.b_law_rule .nil pass0 (pa_cons (pv 1) (pa_cons (pv 3) pa_nil)))))
        (pss_cons
          (ps_setLc (i := 7) (own := [("m", 15)]) (g := gName 15) rfl sc_law.nd rfl rfl (sw_true rfl rfl rfl (by decide +kernel)) (pi_range1 (by rfl) T.m_range (pa_cons (pe_call (ok_law_draw T) (hr.mono (by decide)) (by rfl) T.g_law_draw T.F_law_draw.kp T.b_law_draw .nil pass0 (pa_cons (pv 1) (pa_cons pe_int pa_nil))) pa_nil)) (blkOk_by (N := ["script", "deck", "k", "task_list", "own", "book", "rule_list", "bad", "rule", "due", "way", "names", "given", "expected", "made", "m"]) (sc := defScope s_law) (own := [("m", 15)]) (by decide +kernel)) (fun _ _ _ _ _ => (pg_name (i := 15) sc_law.nd rfl (.inl rfl))) (fun _ _ _ _ _ => pts_nil) (fun _ _ _ _ _ => (pe_call (ok_law_bad_rule T) (hr.mono (by decide)) (by rfl) T.g_law_bad_rule T.F_law_bad_rule.kp T.b_law_bad_rule .nil pass0 (pa_cons (pv 1) (pa_cons (pv 3) pa_nil)))))
        (pss_cons
          (ps_for PassesOwn.never rfl (pi_list (pv 7)) (pg_name (i := 8) sc_law.nd rfl (.inl rfl))
            (pss_one
              (ps_expr (pe_bm PySem.F.plainAttrs_list PySem.F.slot_list_insert PySem.F.type_list_insert mt_insert (pv 6) (pa_cons (pe_call (ok_law_draw T) (hr.mono (by decide)) (by rfl) T.g_law_draw T.F_law_draw.kp T.b_law_draw .nil pass0 (pa_cons (pv 1) (pa_cons (pe_op op_add (pe_callB call_len_seq (by rfl) T.m_len (by decide +kernel) (pa_cons (pv 6) pa_nil)) pe_int) pa_nil))) (pa_cons (pv 8) pa_nil))))))
        (pss_cons
          (ps_set (i := 9) sc_law.nd rfl (.inl rfl) (pe_call (ok_law_rule_due T) (hr.mono (by decide)) (by rfl) T.g_law_rule_due T.F_law_rule_due.kp T.b_law_rule_due .nil pass0 (pa_cons (pv 3) (pa_cons (pv 6) pa_nil))))
        (pss_cons
          (ps_for PassesOwn.never rfl (pi_list (pe_call (ok_law_order T) (hr.mono (by decide)) (by rfl) T.g_law_order T.F_law_order.kp T.b_law_order .nil pass0 (pa_cons (pv 1) (pa_cons pe_int pa_nil)))) (pg_name (i := 10) sc_law.nd rfl (.inl rfl))
            (pss_cons
              (ps_set (i := 11) sc_law.nd rfl (.inl rfl) (pe_callTy call_list_of (by rfl) T.m_list (by decide +kernel) (pa_cons (pv 3) pa_nil)))
            (pss_cons
              (ps_set (i := 12) sc_law.nd rfl (.inl rfl) (pe_callTy call_list_of (by rfl) T.m_list (by decide +kernel) (pa_cons (pv 6) pa_nil)))
            (pss_cons
              (ps_if (pt_cmpR (op_neD hr.units) (pe_call (ok_law_raised T) hr (by rfl) T.g_law_raised T.F_law_raised.kp T.b_law_raised .nil pass0 (pa_cons (pv 5) (pa_cons (pv 11) (pa_cons (pv 12) (pa_cons (pv 10) pa_nil))))) (pv 9) (nomark _))
                (pss_one
                  (ps_ret pe_bl))
                pss_nil)
            (pss_cons
              (ps_if (pt_cmpR op_ne (pe_call (ok_law_based T) hr (by rfl) T.g_law_based T.F_law_based.kp T.b_law_based .nil pass0 (pa_cons (pv 5) (pa_cons (pv 11) (pa_cons (pv 12) (pa_cons (pv 10) pa_nil))))) (pe_cmpR op_ne (pe_ix ix_tup (pv 9) pe_int (fun _ _ => rfl)) pe_str (nomark _)) (nomark _))
                (pss_one
                  (ps_ret pe_bl))
                pss_nil)
            (pss_cons
              (ps_if (PW.pt (pw_or (pt_cmpR (op_neD hr.units) (pv 11) (pv 3) (nomark _)) (pw_or1 (pt_cmpR (op_neD hr.units) (pv 12) (pv 6) (nomark _)))))
                (pss_one
                  (ps_ret pe_bl))
                pss_nil)
            (pss_cons
              (ps_set (i := 13) sc_law.nd rfl (.inl rfl) (pe_op op_cat (pv 4) (pv 6)))
            (C8.pss_cut
              (ps_if (pt_cmpR op_in_seq (pv 10) (pe_tup (pa_cons pe_int (pa_cons pe_int pa_nil))) (by rfl))
                (pss_one
                  (ps_set (i := 13) sc_law.nd rfl (.inl rfl) (pv 6)))
                pss_nil)
            (pss_one
              (ps_if (pt_cmpR op_eq (pe_ix ix_tup (pv 9) pe_int (fun _ _ => rfl)) pe_str (nomark _))
                (pss_cons
                  (ps_set (i := 14) sc_law.nd rfl (.inl rfl) (pe_call (ok_law_call T) (hr.mono (by decide)) (by rfl) T.g_law_call T.F_law_call.kp T.b_law_call .nil passL (pa_cons (pv 5) (pa_cons (pv 11) (pa_cons (pv 12) (pa_cons (pv 10) pa_nil))))))
                (pss_one
                  (ps_if (pt_not (pt_val (pe_call (ok_law_shows T) (hr.mono (by decide)) (by rfl) T.g_law_shows T.F_law_shows.kp T.b_law_shows .nil pass0 (pa_cons (pv 1) (pa_cons (pv 14) (pa_cons (pv 3) (pa_cons (pv 13) pa_nil)))))))
                    (pss_one
                      (ps_ret pe_bl))
                    pss_nil)))
                pss_nil))))))))))
        (pss_cons
          (ps_for PassesOwn.never rfl (pi_list (pv 7)) (pg_name (i := 8) sc_law.nd rfl (.inl rfl))
            (pss_one
              (ps_if (pt_not (pt_val (pe_call (ok_law_taken_later T) (hr.mono (by decide)) (by rfl) T.g_law_taken_later T.F_law_taken_later.kp T.b_law_taken_later .nil pass0 (pa_cons (pv 1) (pa_cons (pv 3) (pa_cons (pv 8) pa_nil))))))
                (pss_one
                  (ps_ret pe_bl))
                pss_nil)))
        (pss_one
          (ps_if (pt_not (pt_val (pe_call (ok_law_shows T) (hr.mono (by decide)) (by rfl) T.g_law_shows T.F_law_shows.kp T.b_law_shows .nil pass0 (pa_cons (pv 1) (pa_cons (pv 5) (pa_cons (pv 3) (pa_cons (pv 4) pa_nil)))))))
            (pss_one
              (ps_ret pe_bl))
            pss_nil)))))))))))
    (pss_one
      (ps_ret pe_bl)))), ?_⟩
    refine ⟨_, rfl, a, ns, rfl, hS, hl, fun d g H1 s1 hD1 => ?_⟩
    refine ⟨_, rfl, d, g, 3, rfl, hD1, by decide, by decide +kernel, fun n H2 n0 n1 hD2 k2 => ⟨_, _, rfl, rfl, _, rfl, by omega, by omega, for_range (n := (1 + n).toNat) (fun i σ H' => ∃ x2 x3 x4 x5 x6 x7 x8 x9 x10 x11 x12 x13 x14, σ = [some (.ref a), some (.ref d), x2, x3, x4, x5, x6, x7, x8, x9, x10, x11, x12, x13, x14, none] ∧ Deck H' d g)
      ⟨_, _, _, _, _, _, _, _, _, _, _, _, _, rfl, hD2⟩ ?_ ?_⟩⟩
    · clear hD2 k2 hD1 s1 hl hS n0 n1
      rintro i σ H0 _ ⟨x2, x3, x4, x5, x6, x7, x8, x9, x10, x11, x12, x13, x14, rfl, hD0⟩
      refine ⟨_, rfl, d, g, 9, 12, rfl, hD0, by decide, by decide, by decide, by decide, fun u t r ts as ls H1 s1 ft fr eu lt lr tr rls ok tf af => ⟨u, _, rfl, .of eu, rfl, _, _, rfl, _, _, rfl, rfl, ?_⟩⟩
      have hD1 := s1.dk
      clear hD0 s1 ft fr eu tr
      obtain ⟨own, oa, ol, oat, orok⟩ := rls.rows
      have ow : RowsW own := fun p hp => rule_wz ok (orok p hp)
      have olen : own.length ≤ 12 := by
        have : (own.map Prod.fst).length = as.length := by rw [oa]
        rw [List.length_map] at this
        omega
      rw [← oa, rows_ref] at lr
      clear rls oa af
      -- book
      refine ⟨_, rfl, _, rfl, mkR (rows := own) (Same.refl H1) lt.at_ lr.at_ ok oat ?_⟩
      have rn := rsf_app (more := []) orok
      rw [List.append_nil] at rn
      rw [rn]
      refine ⟨fun a (e : rsf ts [] = some (a, RF.inv)) => (by cases e), fun a z (e : rsf ts [] = some (a, RF.unk z)) => (by cases e), fun a z (e : rsf ts [] = some (a, RF.same z)) => (by cases e), fun _ b bx p q H2 s2 fp fq eb ep eq => ?_⟩
      have hD2 := hD1.same s2
      have lp : Lat H2 d g p (ts.map V.str) := ⟨ep, (hD1.new fp).1, (hD1.new fp).2⟩
      have lq : Lat H2 d g q (own.map fun (p : RR) => V.ref p.1) := ⟨eq, (hD1.new fq).1, (hD1.new fq).2⟩
      have lt := lt.keep (Same.kd s2)
      have lr := lr.keep (Same.kd s2)
      have oat := oat.keep (Same.tk s2)
      clear fp fq ep eq s2 hD1
      -- rule_list
      refine ⟨_, rfl, d, g, 9, rfl, hD2, by decide, by decide +kernel, fun n H3 n0 n1 hD3 k3 => ⟨_, rfl, by omega, by omega, fun R hR => ?_⟩⟩
      have s3 : Std H2 H3 d g := (Std.refl hD2).draw hD3 k3
      have dR := hD3.new hR
      have fR := s3.free hR
      refine lc_range (lo := 0) (n := n.toNat) (fun j H' => ∃ rows : List RR, Std H3 H' d g ∧ H' R = some (.lst (rows.map fun (p : RR) => V.ref p.1)) ∧ RowsAt H' rows ∧ (∀ p ∈ rows, RuleOk ts p.2) ∧ rows.length = j) ?_ ?_ ?_
      · exact ⟨[], (Std.refl s3.dk).new hR, upd_same, fun p h => absurd h List.not_mem_nil, fun p h => absurd h List.not_mem_nil, rfl⟩
      · rintro j H4 hj ⟨rows, s4, eR, rat, rok, rl⟩
        refine ⟨rfl, _, rfl, _, rfl, d, g, t, ts, rfl, s4.dk, (lt.keep s3.kd).keep s4.kd, ok, fun x l H5 s5 fa ea lok => ?_⟩
        have eR5 := s5.kd _ _ eR dR.1 dR.2
        have s45 := s4.trans s5
        have len := rule_len lok
        refine ⟨_, eR5, ?_, rows ++ [(x, l)], s45.mut hR dR.1 dR.2, ?_, ?_, ?_, ?_⟩
        · rw [List.length_map, rl]; exact small1000 (by omega)
        · rw [upd_same, List.map_append]; rfl
        · intro p hp
          rcases List.mem_append.mp hp with h | h
          · exact (rat.keep ((Kd.tk s5.kd s4.dk).trans (tk_mut eR5))) p h
          · rw [List.mem_singleton.mp h]
            exact ⟨tk_mut eR5 _ _ ea, by show 1 ≤ l.length; omega, by show l.length ≤ 100; omega⟩
        · intro p hp
          rcases List.mem_append.mp hp with h | h
          · exact rok p h
          · rw [List.mem_singleton.mp h]; exact lok
        · rw [List.length_append, rl]; rfl
      rintro H4 ⟨rows, s4, eR, rat, rok, rl⟩
      have rw0 : RowsW rows := fun p hp => rule_wz ok (rok p hp)
      have rl : rows.length ≤ 8 := by omega
      have s24 := s3.trans s4
      clear s3 s4 k3 hD3 n0 n1 rok
      -- bad
      refine ⟨_, rfl, d, g, 4, rfl, s24.dk, by decide, by decide +kernel, fun n H5 n0 n1 hD5 k5 => ⟨_, rfl, by omega, by omega, fun B hB => ?_⟩⟩
      have s25 := s24.draw hD5 k5
      have dB := hD5.new hB
      have fB := s25.free hB
      have eR5 := k5 _ _ eR dR.1 dR.2
      have RB : R ≠ B := ne_of_none eR5 hB
      have rat5 := rat.keep (Kd.tk k5 s24.dk)
      refine lc_range (lo := 0) (n := n.toNat) (fun j H' => ∃ bad : List RR, Std H5 H' d g ∧ H' B = some (.lst (bad.map fun (p : RR) => V.ref p.1)) ∧ RowsAt H' bad ∧ RowsW bad ∧ (∀ p ∈ bad, p.2.length ≤ 8) ∧ bad.length = j) ?_ ?_ ?_
      · exact ⟨[], (Std.refl hD5).new hB, upd_same, fun p h => absurd h List.not_mem_nil, fun p h => absurd h List.not_mem_nil, fun p h => absurd h List.not_mem_nil, rfl⟩
      · rintro j H6 hj ⟨bad, s6, eB, bat, bw, b8, bl⟩
        refine ⟨rfl, _, rfl, _, rfl, d, g, t, ts, rfl, s6.dk, (lt.keep s25.kd).keep s6.kd, ok, fun x l H7 s7 ea lw l1 l8 => ?_⟩
        have eB7 := s7.kd _ _ eB dB.1 dB.2
        have s67 := s6.trans s7
        refine ⟨_, eB7, ?_, bad ++ [(x, l)], s67.mut hB dB.1 dB.2, ?_, ?_, ?_, ?_, ?_⟩
        · rw [List.length_map, bl]; exact small1000 (by omega)
        · rw [upd_same, List.map_append]; rfl
        · intro p hp
          rcases List.mem_append.mp hp with h | h
          · exact (bat.keep ((Kd.tk s7.kd s6.dk).trans (tk_mut eB7))) p h
          · rw [List.mem_singleton.mp h]
            exact ⟨tk_mut eB7 _ _ ea, l1, by show l.length ≤ 100; omega⟩
        · intro p hp
          rcases List.mem_append.mp hp with h | h
          · exact bw p h
          · rw [List.mem_singleton.mp h]; exact lw
        · intro p hp
          rcases List.mem_append.mp hp with h | h
          · exact b8 p h
          · rw [List.mem_singleton.mp h]; exact l8
        · rw [List.length_append, bl]; rfl
      rintro H6 ⟨bad, s6, eB, bat, bw, b8, bl⟩
      have bl : bad.length ≤ 3 := by omega
      have s26 := s25.trans s6
      have eR6 := s6.kd _ _ eR5 dR.1 dR.2
      have rat6 := rat5.keep (Kd.tk s6.kd hD5)
      clear rat5 eR5 s25 s24 k5 n0 n1 rat eR s6 hD5 hB hR
      -- put among them
      refine ⟨_, rfl, B, rfl, ⟨_, .of eB⟩, for_list (xs := bad.map fun (p : RR) => V.ref p.1) (fun j σ H' => ∃ (y8 : Option V) (rows : List RR), σ = [some (.ref a), some (.ref d), some (.int (0 + (i : Int))), some (.ref t), some (.ref r), some (.ref b), some (.ref R), some (.ref B), y8, x9, x10, x11, x12, x13, x14, none] ∧ Std H2 H' d g ∧ H' R = some (.lst (rows.map fun (p : RR) => V.ref p.1)) ∧ H' B = some (.lst (bad.map fun (p : RR) => V.ref p.1)) ∧ RowsAt H' rows ∧ RowsW rows ∧ RowsAt H' bad ∧ rows.length ≤ 8 + j) ⟨_, rows, rfl, s26, eR6, eB, rat6, rw0, bat, rl⟩ (fun j σ H' _ h => ?_) ?_ ?_⟩
      · obtain ⟨_, _, _, _, _, e, _⟩ := h
        exact .of e
      · rintro j v σ H7 hj ⟨y8, rows, rfl, s7, eR7, eB7, rat7, rw7, bat7, rl7⟩
        rw [List.getElem?_map] at hj
        obtain ⟨⟨x, l⟩, hx, rfl⟩ := Option.map_eq_some_iff.mp hj
        have jl := (List.getElem?_eq_some_iff.mp hx).1
        have xm := List.mem_of_getElem? hx
        refine ⟨_, rfl, .inl ⟨rfl, _, .of eR7⟩, _, rfl, _, rfl, R, _, rfl, .inl (.of eR7), _, _, rfl, rfl, d, g, _, rfl, s7.dk, ?_, ?_, fun q H8 q0 q1 hD8 k8 => ⟨_, rfl, ?_⟩⟩
        · show (0 : Int) < ((rows.map fun (p : RR) => V.ref p.1).length : Int) + 1
          omega
        · refine small_log ?_
          show (((rows.map fun (p : RR) => V.ref p.1).length : Int) + 1).natAbs < 1024
          rw [List.length_map]; omega
        obtain ⟨q, rfl⟩ := Int.eq_ofNat_of_zero_le q0
        have q2 : (q : Int) < ((rows.map fun (p : RR) => V.ref p.1).length : Int) + 1 := q1
        rw [List.length_map] at q2
        have eR8 := k8 _ _ eR7 dR.1 dR.2
        refine ⟨R, _, q, .ref x, rfl, rfl, eR8, ?_, q0, by omega, ?_⟩
        · rw [List.length_map]; exact small1000 (by omega)
        have tk : Tk H7 (upd H8 R (.lst ((rows.map fun (p : RR) => V.ref p.1).take (q : Int).toNat ++ [.ref x] ++ (rows.map fun (p : RR) => V.ref p.1).drop (q : Int).toNat))) := (Kd.tk k8 s7.dk).trans (tk_mut eR8)
        have s8 := s7.draw hD8 k8
        refine ⟨_, rows.take q ++ [(x, l)] ++ rows.drop q, rfl, s8.mut fR dR.1 dR.2, ?_, ?_, ?_, ?_, bat7.keep tk, ?_⟩
        · rw [upd_same, Int.toNat_natCast, List.map_append, List.map_append, List.map_take, List.map_drop]
          rfl
        · rw [upd_ne RB.symm]; exact k8 _ _ eB7 dB.1 dB.2
        · intro p hp
          rcases ins_mem hp with h | h
          · exact (rat7.keep tk) p h
          · rw [h]; exact (bat7.keep tk) _ xm
        · intro p hp
          rcases ins_mem hp with h | h
          · exact rw7 p h
          · rw [h]; exact bw _ xm
        · rw [ins_len (by omega)]; omega
      clear rat6 eR6 eB bat s26 rw0 rl
      rintro σ H7 ⟨y8, rows, rfl, s7, eR, eB, rat, rwz, bat, rl⟩
      rw [List.length_map] at rl
      have rl : rows.length ≤ 11 := by omega
      have hD7 := s7.dk
      have lR : Lat H7 d g R (rows.map fun (p : RR) => V.ref p.1) := ⟨eR, dR.1, dR.2⟩
      have lB : Lat H7 d g B (bad.map fun (p : RR) => V.ref p.1) := ⟨eB, dB.1, dB.2⟩
      have lt := lt.keep s7.kd
      have lr := lr.keep s7.kd
      have lp := lp.keep s7.kd
      have lq := lq.keep s7.kd
      have eb : H7 b = some (.ins T.C_Book bx (fl p q)) := by
        obtain ⟨gs, a', m', g1, g2, _⟩ := hD2
        exact s7.kd _ _ eb (ne_of eb g1 (by intro z; cases z)) (ne_of eb g2 (by intro z; cases z))
      have oat := oat.keep (Kd.tk s7.kd hD2)
      clear eR eB dR dB s7 hD2 RB fR fB
      -- due
      refine ⟨_, rfl, _, rfl, t, R, ts, rows, rfl, .of lt.at_, .of lR.at_, rat, fun u H8 s8 eu => ?_⟩
      have s78 : Std H7 H8 d g := (Std.refl hD7).same s8
      refine ⟨_, rfl, d, g, 4, rfl, s78.dk, by decide, fun O os H9 s9 fO eO o1 o2 oin ol ond => ⟨O, rfl, ⟨_, .of eO⟩, ?_⟩⟩
      have s79 := s78.trans s9
      have hD9 := s79.dk
      have lO : Lat H9 d g O (os.map V.int) := ⟨eO, o1, o2⟩
      have eu := Kd.tk s9.kd s78.dk _ _ eu
      have tk := Kd.tk s79.kd hD7
      have lR := lR.keep s79.kd
      have lB := lB.keep s79.kd
      have lt := lt.keep s79.kd
      have lr := lr.keep s79.kd
      have lp := lp.keep s79.kd
      have lq := lq.keep s79.kd
      have rat := rat.keep tk
      have bat := bat.keep tk
      have oat := oat.keep tk
      have eb : H9 b = some (.ins T.C_Book bx (fl p q)) := by
        obtain ⟨gs, a', m', g1, g2, _⟩ := hD7
        exact s79.kd _ _ eb (ne_of eb g1 (by intro z; cases z)) (ne_of eb g2 (by intro z; cases z))
      clear s79 tk s9 s78 s8 fO eO o1 o2 hD7
      have insK : ∀ {H' : Hp}, Kd d g H9 H' → H' b = some (.ins T.C_Book bx (fl p q)) := fun {H'} k => by
        obtain ⟨gs, a', m', g1, g2, _⟩ := hD9
        exact k _ _ eb (ne_of eb g1 (by intro z; cases z)) (ne_of eb g2 (by intro z; cases z))
      have bkO : ∀ {H' : Hp}, Kd d g H9 H' → BkO T.C_Book H' b ts own := fun {H'} k => ⟨bx, p, q, insK k, (lp.keep k).at_, (lq.keep k).at_⟩
      have rowsE : ∀ {H' : Hp}, Kd d g H9 H' → RowsAt H' rows := fun {H'} k => rat.keep (Kd.tk k hD9)
      have ownE : ∀ {H' : Hp}, Kd d g H9 H' → RowsAt H' own := fun {H'} k => oat.keep (Kd.tk k hD9)
      refine for_list (xs := os.map V.int) (fun j σ H' => ∃ (y10 y11 y12 y13 y14 : Option V), σ = [some (.ref a), some (.ref d), some (.int (0 + (i : Int))), some (.ref t), some (.ref r), some (.ref b), some (.ref R), some (.ref B), y8, some (.ref u), y10, y11, y12, y13, y14, none] ∧ Std H9 H' d g) ⟨_, _, _, _, _, rfl, Std.refl hD9⟩ (fun j σ H' _ h => ?_) ?_ ?_
      · obtain ⟨_, _, _, _, _, _, s⟩ := h
        exact .of (lO.keep s.kd).at_
      · rintro j v σ H10 hj ⟨y10, y11, y12, y13, y14, rfl, s10⟩
        rw [List.getElem?_map] at hj
        obtain ⟨way, hw, rfl⟩ := Option.map_eq_some_iff.mp hj
        have wi := oin way (List.mem_of_getElem? hw)
        have w4 : way < 4 := wi.2
        refine ⟨_, rfl, t, _, rfl, .inl (.of (lt.keep s10.kd).at_), fun N hN => ?_⟩
        have s11 := s10.new (o := .lst (ts.map V.str)) hN
        have lN := Lat.new (xs := ts.map V.str) s10.dk hN
        generalize upd H10 N (.lst (ts.map V.str)) = H11 at *
        refine ⟨_, rfl, R, _, rfl, .inl (.of (lR.keep s11.kd).at_), fun G hG => ?_⟩
        have y1 := same_upd (o := .lst (rows.map fun (p : RR) => V.ref p.1)) hG
        have s12 := s11.new (o := .lst (rows.map fun (p : RR) => V.ref p.1)) hG
        have lG := Lat.new (xs := rows.map fun (p : RR) => V.ref p.1) s11.dk hG
        have lN := lN.keep (Same.kd y1)
        generalize upd H11 G (.lst (rows.map fun (p : RR) => V.ref p.1)) = H12 at *
        clear y1 hG hN s11 s10
        -- raised
        refine ⟨_, rfl, _, rfl, _, rfl, _, rfl, b, N, G, way, ts, own, rows, rfl, ⟨wi.1, w4, bkO s12.kd, ownE s12.kd, orok, lN.at_, lG.at_, rowsE s12.kd, ok, by omega, by omega⟩, fun w H13 z13 ew => ?_⟩
        have s13 := s12.same z13
        obtain ⟨dd, dp, dok, dne⟩ := rdue_dp (K := K) (ts := ts) (rowsE s13.kd) rwz
        refine ⟨_, rfl, .tuple dd, .tuple dd, .tup (.of ew) dp, .tup (.of (Kd.tk s13.kd hD9 _ _ eu)) dp, dok, dok, _, rfl, iteNB (eqv_self dok) ?_⟩
        have lN := lN.keep (Same.kd z13)
        have lG := lG.keep (Same.kd z13)
        -- based
        refine ⟨_, rfl, _, rfl, _, rfl, _, rfl, b, N, G, way, ts, own, rows, rfl, ⟨wi.1, w4, bkO s13.kd, ownE s13.kd, orok, lN.at_, lG.at_, rowsE s13.kd, ok, by omega, by omega⟩, fun H14 z14 => ?_⟩
        have s14 := s13.same z14
        have lN := lN.keep (Same.kd z14)
        have lG := lG.keep (Same.kd z14)
        have eu14 := Kd.tk s14.kd hD9 _ _ eu
        have word : decide (V.str (dueR (rsf ts rows)).1 = V.str (Str.ofString "")) = decide ((dueR (rsf ts rows)).1 = ("" : Str)) := decide_eq_decide.mpr ⟨fun h => V.str.inj h, fun h => congrArg V.str h⟩
        refine ⟨_, rfl, u, _, _, V.str (dueR (rsf ts rows)).1, rfl, rfl, .of eu14, atI_nat (j := 0) rfl, rfl, ?_⟩
        rw [word]
        refine ⟨rfl, _, rfl, iteNB (by rw [decide_eq_true rfl]; rfl) ?_⟩
        clear dd dp dok dne ew z13 z14 s13 s12
        -- not modified
        refine ⟨_, rfl, _, rfl, tdata ts, tdata ts, .lst (.of lN.at_) dp_strs, .lst (.of (lt.keep s14.kd).at_) dp_strs, tdata_ok ok, tdata_ok ok, _, rfl, iteNB (eqv_self (tdata_ok ok)) ?_⟩
        refine ⟨_, rfl, _, rfl, wdataR rows, wdataR rows, .lst (.of lG.at_) (rows_dp (rowsE s14.kd)), .lst (.of (lR.keep s14.kd).at_) (rows_dp (rowsE s14.kd)), rows_ok rwz, rows_ok rwz, _, rfl, iteNB (eqv_self (rows_ok rwz)) ?_⟩
        -- expected
        refine ⟨_, rfl, _, rfl, r, R, _, _, rfl, rfl, (lr.keep s14.kd).at_, (lR.keep s14.kd).at_, ?_, fun E1 hE => ?_⟩
        · rw [List.length_map, List.length_map]; exact Nat.le_of_lt (small1000 (by omega))
        have y1 := same_upd (o := .lst (own.map (fun (p : RR) => V.ref p.1) ++ rows.map fun (p : RR) => V.ref p.1)) hE
        have s15 := s14.new (o := .lst (own.map (fun (p : RR) => V.ref p.1) ++ rows.map fun (p : RR) => V.ref p.1)) hE
        have lE : Lat (upd H14 E1 (.lst (own.map (fun (p : RR) => V.ref p.1) ++ rows.map fun (p : RR) => V.ref p.1))) d g E1 ((own ++ rows).map fun (p : RR) => V.ref p.1) := by
          rw [List.map_append]
          exact Lat.new s14.dk hE
        have lN := lN.keep (Same.kd y1)
        have lG := lG.keep (Same.kd y1)
        generalize upd H14 E1 (.lst (own.map (fun (p : RR) => V.ref p.1) ++ rows.map fun (p : RR) => V.ref p.1)) = H15 at *
        clear y1 hE s14 eu14
        refine ⟨fun σ' H' => ∃ X : Addr, σ' = [some (.ref a), some (.ref d), some (.int (0 + (i : Int))), some (.ref t), some (.ref r), some (.ref b), some (.ref R), some (.ref B), y8, some (.ref u), some (.int way), some (.ref N), some (.ref G), some (.ref X), y14, none] ∧ Std H9 H' d g ∧ Lat H' d g N (ts.map V.str) ∧ Lat H' d g G (rows.map fun (p : RR) => V.ref p.1) ∧ Lat H' d g X ((if way = 0 ∨ way = 3 then rows else own ++ rows).map fun (p : RR) => V.ref p.1), ?_, ?_⟩
        · refine ⟨_, rfl, (by show 2 ≤ sizeLine; decide), fun U hU => ⟨U, _, rfl, .inr (.of upd_same), rfl, rfl, _, rfl, ?_⟩⟩
          have y1 := same_upd (o := .tup [.int 0, .int 3]) hU
          have s16 := s15.new (o := .tup [.int 0, .int 3]) hU
          have lN := lN.keep (Same.kd y1)
          have lG := lG.keep (Same.kd y1)
          have lE := lE.keep (Same.kd y1)
          generalize upd H15 U (.tup [.int 0, .int 3]) = H16 at *
          rcases small9 wi.1 w4 with rfl | rfl | rfl | rfl
          · exact iteB rfl ⟨_, rfl, R, rfl, s16, lN, lG, by rw [if_pos (.inl rfl)]; exact lR.keep s16.kd⟩
          · exact iteNB rfl ⟨E1, rfl, s16, lN, lG, by rw [if_neg (by omega)]; exact lE⟩
          · exact iteNB rfl ⟨E1, rfl, s16, lN, lG, by rw [if_neg (by omega)]; exact lE⟩
          · exact iteB rfl ⟨_, rfl, R, rfl, s16, lN, lG, by rw [if_pos (.inr rfl)]; exact lR.keep s16.kd⟩
        clear lN lG lE s15
        rintro σ H16 ⟨X, rfl, s16, lN, lG, lX⟩
        refine ⟨_, rfl, u, _, _, V.str (dueR (rsf ts rows)).1, rfl, rfl, .of (Kd.tk s16.kd hD9 _ _ eu), atI_nat (j := 0) rfl, rfl, _, rfl, ?_⟩
        rw [word]
        refine ite2 (fun c => ?_) (fun c => ⟨_, _, _, _, _, rfl, s16⟩)
        have rn : rsf ts rows = none := by
          have c := of_decide_eq_true c
          match e : rsf ts rows with
          | none => rfl
          | some (x, .inv) =>
            rw [e] at c
            exact absurd c (by show ¬ ("InvalidRule" : Str) = ""; decide +kernel)
          | some (x, .unk z) =>
            rw [e] at c
            exact absurd c (by show ¬ ("UnknownTask" : Str) = ""; decide +kernel)
          | some (x, .same z) =>
            rw [e] at c
            exact absurd c (by show ¬ ("SameTask" : Str) = ""; decide +kernel)
        have rrok := rsf_none rn
        refine ⟨_, rfl, _, rfl, _, rfl, _, rfl, b, N, G, way, ts, own, rows, rfl, wi.1, w4, bkO s16.kd, ownE s16.kd, orok, lN.at_, lG.at_, rowsE s16.kd, ok, by omega, by omega, fun x e => (by rw [rn] at e; cases e), fun x z e => (by rw [rn] at e; cases e), fun x z e => (by rw [rn] at e; cases e), fun _ m mx p' q' H17 z17 fp fq em ep eq => ?_⟩
        have s17 := s16.same z17
        have eat : RowsAt H17 (if way = 0 ∨ way = 3 then rows else own ++ rows) := by
          split
          · exact rowsE s17.kd
          · intro y hy
            rcases List.mem_append.mp hy with h | h
            · exact ownE s17.kd y h
            · exact rowsE s17.kd y h
        have eok : ∀ y ∈ (if way = 0 ∨ way = 3 then rows else own ++ rows), RuleOk ts y.2 := by
          split
          · exact rrok
          · intro y hy
            rcases List.mem_append.mp hy with h | h
            · exact orok y h
            · exact rrok y h
        have elen : (if way = 0 ∨ way = 3 then rows else own ++ rows).length ≤ 100 := by
          split
          · omega
          · rw [List.length_append]; omega
        generalize (if way = 0 ∨ way = 3 then rows else own ++ rows) = ex at *
        have rls := rows_rls eat eok
        refine ⟨_, rfl, _, rfl, _, rfl, _, rfl, d, g, m, t, X, ts, ex.map Prod.snd, rfl, s17.dk, ⟨mx, p', q', em, ⟨ep, (s16.dk.new fp).1, (s16.dk.new fp).2⟩, _, ⟨?_, (s16.dk.new fq).1, (s16.dk.new fq).2⟩, rls⟩, lt.keep s17.kd, ⟨_, ?_, rls⟩, ok, ?_, fun H18 s18 => ⟨_, rfl, _, _, _, _, _, rfl, s17.trans s18⟩⟩
        · rw [rows_ref]; exact eq
        · rw [rows_ref]; exact lX.keep (Same.kd z17)
        · rw [List.length_map]; omega
      rintro σ H10 ⟨y10, y11, y12, y13, y14, rfl, s10⟩
      -- taken later
      refine ⟨_, rfl, B, rfl, ⟨_, .of (lB.keep s10.kd).at_⟩, for_list (xs := bad.map fun (p : RR) => V.ref p.1) (fun j σ H' => ∃ (y8 : Option V), σ = [some (.ref a), some (.ref d), some (.int (0 + (i : Int))), some (.ref t), some (.ref r), some (.ref b), some (.ref R), some (.ref B), y8, some (.ref u), y10, y11, y12, y13, y14, none] ∧ Std H9 H' d g) ⟨_, rfl, s10⟩ (fun j σ H' _ h => ?_) ?_ ?_⟩
      · obtain ⟨_, _, s⟩ := h
        exact .of (lB.keep s.kd).at_
      · rintro j v σ H11 hj ⟨y8, rfl, s11⟩
        rw [List.getElem?_map] at hj
        obtain ⟨⟨x, l⟩, hx, rfl⟩ := Option.map_eq_some_iff.mp hj
        have xm := List.mem_of_getElem? hx
        obtain ⟨ex, l1, _⟩ := (bat.keep (Kd.tk s11.kd hD9)) _ xm
        exact ⟨_, rfl, _, rfl, _, rfl, d, g, t, x, ts, l, rfl, s11.dk, lt.keep s11.kd, ok, by omega, ex, l1, b8 _ xm, bw _ xm, fun H12 s12 => ⟨_, rfl, _, rfl, s11.trans s12⟩⟩
      · rintro σ H11 ⟨y8, rfl, s11⟩
        have rls := rows_rls (ownE s11.kd) orok
        refine ⟨_, rfl, _, rfl, _, rfl, _, rfl, d, g, b, t, r, ts, own.map Prod.snd, rfl, s11.dk, ⟨bx, p, q, insK s11.kd, lp.keep s11.kd, _, ?_, rls⟩, lt.keep s11.kd, ⟨_, ?_, rls⟩, ok, by rw [List.length_map]; omega, fun H12 s12 => ⟨_, rfl, _, _, _, _, _, _, _, _, _, _, _, _, _, rfl, s12.dk⟩⟩
        · rw [rows_ref]; exact lq.keep s11.kd
        · rw [rows_ref]; exact lr.keep s11.kd
    · rintro σ H' _
      exact k _
end
set_option maxHeartbeats 8000000 in
theorem all_mk {l : PySem.W.OpenLaw} {w : World} {K : PySem.W.Frag} {h : Heap} {mg : Str → Option Value} {fa f_PlanError_init f_is_name f_check_tasks f_check_rule f_Book_init f_Book_tasks f_Book_rules f_Book_with_rules f_Book_len f_law_deck f_law_draw f_law_names f_law_rule f_law_data f_law_order f_law_shows f_law_strange f_law_bad_rule f_law_rule_due f_law_call f_law_raised f_law_based f_law_taken_later f_law : Addr} (X : K.In h) (G : h.Ns mainGlobals mg) (hfa : mg "law" = some (.ref fa))
    {C_Book : Addr}
    {C_InvalidRule C_UnknownTask C_SameTask C_PlanError : Addr}
    {nm_InvalidRule q_InvalidRule : Str} {N_InvalidRule : Addr} {bs_InvalidRule : List Value} {sn_InvalidRule : List Str} {sub_InvalidRule : List Value} {ab_InvalidRule : Bool} {col_InvalidRule : Option Bool} {dd_InvalidRule : Option Addr} {k0_InvalidRule k1_InvalidRule k2_InvalidRule k3_InvalidRule k5_InvalidRule : Option Value}
    {nm_UnknownTask q_UnknownTask : Str} {N_UnknownTask : Addr} {bs_UnknownTask : List Value} {sn_UnknownTask : List Str} {sub_UnknownTask : List Value} {ab_UnknownTask : Bool} {col_UnknownTask : Option Bool} {dd_UnknownTask : Option Addr} {k0_UnknownTask k1_UnknownTask k2_UnknownTask k3_UnknownTask k5_UnknownTask : Option Value}
    {nm_SameTask q_SameTask : Str} {N_SameTask : Addr} {bs_SameTask : List Value} {sn_SameTask : List Str} {sub_SameTask : List Value} {ab_SameTask : Bool} {col_SameTask : Option Bool} {dd_SameTask : Option Addr} {k0_SameTask k1_SameTask k2_SameTask k3_SameTask k5_SameTask : Option Value}
    {d__TASKS_IN : Addr} {e__TASKS_IN : Array DictEntry} {i__TASKS_IN : Nat}
    {t__TASKS_IN_before : Tok}
    {t__TASKS_IN_upto : Tok}
    {t__TASKS_IN_same : Tok}
    {t__TASKS_IN_apart : Tok}
    {t__TASKS_IN_far : Tok}
    {t__TASKS_IN_next : Tok}
    {t__TASKS_IN_first : Tok}
    {t__TASKS_IN_last : Tok}
    {t__LONGEST_NAME : Tok}
    {od_PlanError_init an_PlanError_init : Option Addr} {sl_PlanError_init : Array (Option Value)} {oc_PlanError_init kV_PlanError_init dc_PlanError_init pm_PlanError_init cd_PlanError_init ct_PlanError_init : Value}
    {od_is_name an_is_name : Option Addr} {sl_is_name : Array (Option Value)} {oc_is_name kV_is_name dc_is_name pm_is_name cd_is_name ct_is_name : Value}
    {od_check_tasks an_check_tasks : Option Addr} {sl_check_tasks : Array (Option Value)} {oc_check_tasks kV_check_tasks dc_check_tasks pm_check_tasks cd_check_tasks ct_check_tasks : Value}
    {od_check_rule an_check_rule : Option Addr} {sl_check_rule : Array (Option Value)} {oc_check_rule kV_check_rule dc_check_rule pm_check_rule cd_check_rule ct_check_rule : Value}
    {od_Book_init an_Book_init : Option Addr} {sl_Book_init : Array (Option Value)} {oc_Book_init kV_Book_init dc_Book_init pm_Book_init cd_Book_init ct_Book_init : Value}
    {od_Book_tasks an_Book_tasks : Option Addr} {sl_Book_tasks : Array (Option Value)} {oc_Book_tasks kV_Book_tasks dc_Book_tasks pm_Book_tasks cd_Book_tasks ct_Book_tasks : Value}
    {p_Book_tasks : Addr} {r_Book_tasks : List Value}
    {od_Book_rules an_Book_rules : Option Addr} {sl_Book_rules : Array (Option Value)} {oc_Book_rules kV_Book_rules dc_Book_rules pm_Book_rules cd_Book_rules ct_Book_rules : Value}
    {p_Book_rules : Addr} {r_Book_rules : List Value}
    {od_Book_with_rules an_Book_with_rules : Option Addr} {sl_Book_with_rules : Array (Option Value)} {oc_Book_with_rules kV_Book_with_rules dc_Book_with_rules pm_Book_with_rules cd_Book_with_rules ct_Book_with_rules : Value}
    {od_Book_len an_Book_len : Option Addr} {sl_Book_len : Array (Option Value)} {oc_Book_len kV_Book_len dc_Book_len pm_Book_len cd_Book_len ct_Book_len : Value}
    {od_law_deck an_law_deck : Option Addr} {sl_law_deck : Array (Option Value)} {oc_law_deck kV_law_deck dc_law_deck pm_law_deck cd_law_deck ct_law_deck : Value}
    {od_law_draw an_law_draw : Option Addr} {sl_law_draw : Array (Option Value)} {oc_law_draw kV_law_draw dc_law_draw pm_law_draw cd_law_draw ct_law_draw : Value}
    {od_law_names an_law_names : Option Addr} {sl_law_names : Array (Option Value)} {oc_law_names kV_law_names dc_law_names pm_law_names cd_law_names ct_law_names : Value}
    {od_law_rule an_law_rule : Option Addr} {sl_law_rule : Array (Option Value)} {oc_law_rule kV_law_rule dc_law_rule pm_law_rule cd_law_rule ct_law_rule : Value}
    {od_law_data an_law_data : Option Addr} {sl_law_data : Array (Option Value)} {oc_law_data kV_law_data dc_law_data pm_law_data cd_law_data ct_law_data : Value}
    {od_law_order an_law_order : Option Addr} {sl_law_order : Array (Option Value)} {oc_law_order kV_law_order dc_law_order pm_law_order cd_law_order ct_law_order : Value}
    {od_law_shows an_law_shows : Option Addr} {sl_law_shows : Array (Option Value)} {oc_law_shows kV_law_shows dc_law_shows pm_law_shows cd_law_shows ct_law_shows : Value}
    {od_law_strange an_law_strange : Option Addr} {sl_law_strange : Array (Option Value)} {oc_law_strange kV_law_strange dc_law_strange pm_law_strange cd_law_strange ct_law_strange : Value}
    {od_law_bad_rule an_law_bad_rule : Option Addr} {sl_law_bad_rule : Array (Option Value)} {oc_law_bad_rule kV_law_bad_rule dc_law_bad_rule pm_law_bad_rule cd_law_bad_rule ct_law_bad_rule : Value}
    {od_law_rule_due an_law_rule_due : Option Addr} {sl_law_rule_due : Array (Option Value)} {oc_law_rule_due kV_law_rule_due dc_law_rule_due pm_law_rule_due cd_law_rule_due ct_law_rule_due : Value}
    {od_law_call an_law_call : Option Addr} {sl_law_call : Array (Option Value)} {oc_law_call kV_law_call dc_law_call pm_law_call cd_law_call ct_law_call : Value}
    {od_law_raised an_law_raised : Option Addr} {sl_law_raised : Array (Option Value)} {oc_law_raised kV_law_raised dc_law_raised pm_law_raised cd_law_raised ct_law_raised : Value}
    {od_law_based an_law_based : Option Addr} {sl_law_based : Array (Option Value)} {oc_law_based kV_law_based dc_law_based pm_law_based cd_law_based ct_law_based : Value}
    {od_law_taken_later an_law_taken_later : Option Addr} {sl_law_taken_later : Array (Option Value)} {oc_law_taken_later kV_law_taken_later dc_law_taken_later pm_law_taken_later cd_law_taken_later ct_law_taken_later : Value}
    {od_law an_law : Option Addr} {sl_law : Array (Option Value)} {oc_law kV_law dc_law pm_law cd_law ct_law : Value}
    (aC_Book : PySem.W.nsIn K mainGlobals "Book" = some (some (.ref C_Book)))
    (pg_Book : PySem.W.plainGet K C_Book Str.empty = true)
    (hd_Book : PySem.W.hasDictIn K C_Book = true)
    (po_Book : PySem.W.plainOver K C_Book = true)
    (sa_Book : PySem.W.findIn K (.ref C_Book) "__setattr__" = some (some (.builtin "object.__setattr__")))
    (ms_Book : PySem.W.makesIn K C_Book = true)
    (kc_Book : PySem.W.keepIn K (.ref C_Book) = true)
    (n_Book_tasks : PySem.W.findIn K (.ref C_Book) "_tasks" = some none)
    (n_Book_rules : PySem.W.findIn K (.ref C_Book) "_rules" = some none)
    (aC_InvalidRule : PySem.W.nsIn K mainGlobals "InvalidRule" = some (some (.ref C_InvalidRule)))
    (eC_InvalidRule : PySem.W.subIn K (.ref C_InvalidRule) (.type "BaseException") = some true)
    (tC_InvalidRule : PySem.W.typeIn K (.ref C_InvalidRule) = some (.type "type"))
    (hC_InvalidRule : PySem.W.hasDictIn K C_InvalidRule = true)
    (xL_InvalidRule : K.lookup C_InvalidRule = some (excClassObj nm_InvalidRule q_InvalidRule C_InvalidRule N_InvalidRule bs_InvalidRule [.ref C_PlanError, .type "ValueError", .type "Exception", .type "BaseException", .type "object"] true sn_InvalidRule sub_InvalidRule ab_InvalidRule col_InvalidRule dd_InvalidRule k0_InvalidRule k1_InvalidRule k2_InvalidRule k3_InvalidRule k5_InvalidRule "ValueError.__new__"))
    (sa_InvalidRule : PySem.W.findIn K (.ref C_InvalidRule) "__setattr__" = some (some (.builtin "object.__setattr__")))
    (ga_InvalidRule : PySem.W.findIn K (.ref C_InvalidRule) "__getattribute__" = some (some (.builtin "BaseException.__getattribute__")))
    (gt_InvalidRule : PySem.W.findIn K (.ref C_InvalidRule) "__getattr__" = some none)
    (nv_InvalidRule : PySem.W.findIn K (.ref C_InvalidRule) "value" = some none)
    (ic_InvalidRule : PySem.W.findIn K (.ref C_InvalidRule) "__init__" = some (some (.ref f_PlanError_init)))
    (kC_InvalidRule : PySem.W.keepIn K (.ref C_InvalidRule) = true)
    (aC_UnknownTask : PySem.W.nsIn K mainGlobals "UnknownTask" = some (some (.ref C_UnknownTask)))
    (eC_UnknownTask : PySem.W.subIn K (.ref C_UnknownTask) (.type "BaseException") = some true)
    (tC_UnknownTask : PySem.W.typeIn K (.ref C_UnknownTask) = some (.type "type"))
    (hC_UnknownTask : PySem.W.hasDictIn K C_UnknownTask = true)
    (xL_UnknownTask : K.lookup C_UnknownTask = some (excClassObj nm_UnknownTask q_UnknownTask C_UnknownTask N_UnknownTask bs_UnknownTask [.ref C_PlanError, .type "ValueError", .type "Exception", .type "BaseException", .type "object"] true sn_UnknownTask sub_UnknownTask ab_UnknownTask col_UnknownTask dd_UnknownTask k0_UnknownTask k1_UnknownTask k2_UnknownTask k3_UnknownTask k5_UnknownTask "ValueError.__new__"))
    (sa_UnknownTask : PySem.W.findIn K (.ref C_UnknownTask) "__setattr__" = some (some (.builtin "object.__setattr__")))
    (ga_UnknownTask : PySem.W.findIn K (.ref C_UnknownTask) "__getattribute__" = some (some (.builtin "BaseException.__getattribute__")))
    (gt_UnknownTask : PySem.W.findIn K (.ref C_UnknownTask) "__getattr__" = some none)
    (nv_UnknownTask : PySem.W.findIn K (.ref C_UnknownTask) "value" = some none)
    (ic_UnknownTask : PySem.W.findIn K (.ref C_UnknownTask) "__init__" = some (some (.ref f_PlanError_init)))
    (kC_UnknownTask : PySem.W.keepIn K (.ref C_UnknownTask) = true)
    (aC_SameTask : PySem.W.nsIn K mainGlobals "SameTask" = some (some (.ref C_SameTask)))
    (eC_SameTask : PySem.W.subIn K (.ref C_SameTask) (.type "BaseException") = some true)
    (tC_SameTask : PySem.W.typeIn K (.ref C_SameTask) = some (.type "type"))
    (hC_SameTask : PySem.W.hasDictIn K C_SameTask = true)
    (xL_SameTask : K.lookup C_SameTask = some (excClassObj nm_SameTask q_SameTask C_SameTask N_SameTask bs_SameTask [.ref C_PlanError, .type "ValueError", .type "Exception", .type "BaseException", .type "object"] true sn_SameTask sub_SameTask ab_SameTask col_SameTask dd_SameTask k0_SameTask k1_SameTask k2_SameTask k3_SameTask k5_SameTask "ValueError.__new__"))
    (sa_SameTask : PySem.W.findIn K (.ref C_SameTask) "__setattr__" = some (some (.builtin "object.__setattr__")))
    (ga_SameTask : PySem.W.findIn K (.ref C_SameTask) "__getattribute__" = some (some (.builtin "BaseException.__getattribute__")))
    (gt_SameTask : PySem.W.findIn K (.ref C_SameTask) "__getattr__" = some none)
    (nv_SameTask : PySem.W.findIn K (.ref C_SameTask) "value" = some none)
    (ic_SameTask : PySem.W.findIn K (.ref C_SameTask) "__init__" = some (some (.ref f_PlanError_init)))
    (kC_SameTask : PySem.W.keepIn K (.ref C_SameTask) = true)
    (aC_PlanError : PySem.W.nsIn K mainGlobals "PlanError" = some (some (.ref C_PlanError)))
    (eC_PlanError : PySem.W.subIn K (.ref C_PlanError) (.type "BaseException") = some true)
    (tC_PlanError : PySem.W.typeIn K (.ref C_PlanError) = some (.type "type"))
    (hC_PlanError : PySem.W.hasDictIn K C_PlanError = true)
    (xca_InvalidRule : PySem.W.findIn K (.ref C_InvalidRule) "__class__" = some (some (.builtin "object.__class__")))
    (xcn_InvalidRule : PySem.W.specialIn K (.builtin "object.__class__") "__get__" = some (some (.builtin "getset_descriptor.__get__")))
    (xct_InvalidRule : PySem.W.takesIn K (.builtin "object.__class__") = some true)
    (xcm_InvalidRule : PySem.W.mroIn K C_InvalidRule (.type "object") = some true)
    (xca_UnknownTask : PySem.W.findIn K (.ref C_UnknownTask) "__class__" = some (some (.builtin "object.__class__")))
    (xcn_UnknownTask : PySem.W.specialIn K (.builtin "object.__class__") "__get__" = some (some (.builtin "getset_descriptor.__get__")))
    (xct_UnknownTask : PySem.W.takesIn K (.builtin "object.__class__") = some true)
    (xcm_UnknownTask : PySem.W.mroIn K C_UnknownTask (.type "object") = some true)
    (xca_SameTask : PySem.W.findIn K (.ref C_SameTask) "__class__" = some (some (.builtin "object.__class__")))
    (xcn_SameTask : PySem.W.specialIn K (.builtin "object.__class__") "__get__" = some (some (.builtin "getset_descriptor.__get__")))
    (xct_SameTask : PySem.W.takesIn K (.builtin "object.__class__") = some true)
    (xcm_SameTask : PySem.W.mroIn K C_SameTask (.type "object") = some true)
    (ti : PySem.W.typeIn K (.ref f_PlanError_init) = some (.type "function"))
    (sb_InvalidRule_InvalidRule : PySem.W.subIn K (.ref C_InvalidRule) (.ref C_InvalidRule) = some true)
    (sb_UnknownTask_UnknownTask : PySem.W.subIn K (.ref C_UnknownTask) (.ref C_UnknownTask) = some true)
    (sb_SameTask_SameTask : PySem.W.subIn K (.ref C_SameTask) (.ref C_SameTask) = some true)
    (sb_InvalidRule_PlanError : PySem.W.subIn K (.ref C_InvalidRule) (.ref C_PlanError) = some true)
    (sb_UnknownTask_PlanError : PySem.W.subIn K (.ref C_UnknownTask) (.ref C_PlanError) = some true)
    (sb_SameTask_PlanError : PySem.W.subIn K (.ref C_SameTask) (.ref C_PlanError) = some true)
    (sn_UnknownTask_InvalidRule : PySem.W.subIn K (.ref C_UnknownTask) (.ref C_InvalidRule) = some false)
    (sn_SameTask_InvalidRule : PySem.W.subIn K (.ref C_SameTask) (.ref C_InvalidRule) = some false)
    (sn_SameTask_UnknownTask : PySem.W.subIn K (.ref C_SameTask) (.ref C_UnknownTask) = some false)
    (ga__TASKS_IN : PySem.W.nsIn K mainGlobals "_TASKS_IN" = some (some (.ref d__TASKS_IN)))
    (gl__TASKS_IN : K.lookup d__TASKS_IN = some ⟨.type "dict", none, .dict e__TASKS_IN i__TASKS_IN, #[]⟩)
    (gk__TASKS_IN : PySem.W.KeysLit w.params e__TASKS_IN.toList)
    (gs__TASKS_IN : (d__TASKS_IN == sysModules) = false)
    (gn__TASKS_IN : e__TASKS_IN.toList.map keyStr = (["before", "upto", "same", "apart", "far", "next", "first", "last"] : List Str))
    (gv__TASKS_IN_before : PySem.W.nsIn K d__TASKS_IN "before" = some (some (.int 2 t__TASKS_IN_before)))
    (gv__TASKS_IN_upto : PySem.W.nsIn K d__TASKS_IN "upto" = some (some (.int 2 t__TASKS_IN_upto)))
    (gv__TASKS_IN_same : PySem.W.nsIn K d__TASKS_IN "same" = some (some (.int 2 t__TASKS_IN_same)))
    (gv__TASKS_IN_apart : PySem.W.nsIn K d__TASKS_IN "apart" = some (some (.int 2 t__TASKS_IN_apart)))
    (gv__TASKS_IN_far : PySem.W.nsIn K d__TASKS_IN "far" = some (some (.int 2 t__TASKS_IN_far)))
    (gv__TASKS_IN_next : PySem.W.nsIn K d__TASKS_IN "next" = some (some (.int 2 t__TASKS_IN_next)))
    (gv__TASKS_IN_first : PySem.W.nsIn K d__TASKS_IN "first" = some (some (.int 1 t__TASKS_IN_first)))
    (gv__TASKS_IN_last : PySem.W.nsIn K d__TASKS_IN "last" = some (some (.int 1 t__TASKS_IN_last)))
    (gv__LONGEST_NAME : PySem.W.nsIn K mainGlobals "_LONGEST_NAME" = some (some (.int 8 t__LONGEST_NAME)))
    (l_PlanError_init : K.lookup f_PlanError_init = some ⟨oc_PlanError_init, od_PlanError_init, .func (PySem.W.fnOf "__init__" "PlanError.__init__" (defArgs s_PlanError_init) (defBody s_PlanError_init) (defScope s_PlanError_init) .none kV_PlanError_init dc_PlanError_init pm_PlanError_init an_PlanError_init cd_PlanError_init ct_PlanError_init), sl_PlanError_init⟩)
    (c_PlanError_init : PySem.W.codeIn K cd_PlanError_init "PlanError.__init__" = true)
    (k_PlanError_init : PySem.W.keepIn K (.ref f_PlanError_init) = true)
    (a_is_name : PySem.W.nsIn K mainGlobals "_is_name" = some (some (.ref f_is_name)))
    (l_is_name : K.lookup f_is_name = some ⟨oc_is_name, od_is_name, .func (PySem.W.fnOf "_is_name" "_is_name" (defArgs s_is_name) (defBody s_is_name) (defScope s_is_name) .none kV_is_name dc_is_name pm_is_name an_is_name cd_is_name ct_is_name), sl_is_name⟩)
    (c_is_name : PySem.W.codeIn K cd_is_name "_is_name" = true)
    (k_is_name : PySem.W.keepIn K (.ref f_is_name) = true)
    (a_check_tasks : PySem.W.nsIn K mainGlobals "_check_tasks" = some (some (.ref f_check_tasks)))
    (l_check_tasks : K.lookup f_check_tasks = some ⟨oc_check_tasks, od_check_tasks, .func (PySem.W.fnOf "_check_tasks" "_check_tasks" (defArgs s_check_tasks) (defBody s_check_tasks) (defScope s_check_tasks) .none kV_check_tasks dc_check_tasks pm_check_tasks an_check_tasks cd_check_tasks ct_check_tasks), sl_check_tasks⟩)
    (c_check_tasks : PySem.W.codeIn K cd_check_tasks "_check_tasks" = true)
    (k_check_tasks : PySem.W.keepIn K (.ref f_check_tasks) = true)
    (a_check_rule : PySem.W.nsIn K mainGlobals "_check_rule" = some (some (.ref f_check_rule)))
    (l_check_rule : K.lookup f_check_rule = some ⟨oc_check_rule, od_check_rule, .func (PySem.W.fnOf "_check_rule" "_check_rule" (defArgs s_check_rule) (defBody s_check_rule) (defScope s_check_rule) .none kV_check_rule dc_check_rule pm_check_rule an_check_rule cd_check_rule ct_check_rule), sl_check_rule⟩)
    (c_check_rule : PySem.W.codeIn K cd_check_rule "_check_rule" = true)
    (k_check_rule : PySem.W.keepIn K (.ref f_check_rule) = true)
    (a_Book_init : PySem.W.findIn K (.ref C_Book) "__init__" = some (some (.ref f_Book_init)))
    (i_Book_init : PySem.W.isFn K (.ref f_Book_init) = true)
    (l_Book_init : K.lookup f_Book_init = some ⟨oc_Book_init, od_Book_init, .func (PySem.W.fnOf "__init__" "Book.__init__" (defArgs s_Book_init) (defBody s_Book_init) (defScope s_Book_init) .none kV_Book_init dc_Book_init pm_Book_init an_Book_init cd_Book_init ct_Book_init), sl_Book_init⟩)
    (c_Book_init : PySem.W.codeIn K cd_Book_init "Book.__init__" = true)
    (k_Book_init : PySem.W.keepIn K (.ref f_Book_init) = true)
    (a_Book_tasks : PySem.W.findIn K (.ref C_Book) "tasks" = some (some (.ref p_Book_tasks)))
    (ps_Book_tasks : PySem.W.specialIn K (.ref p_Book_tasks) "__get__" = some (some (.builtin "property.__get__")))
    (pt_Book_tasks : PySem.W.takesIn K (.ref p_Book_tasks) = some true)
    (pr_Book_tasks : PySem.W.recIn K p_Book_tasks "property" = some (.ref f_Book_tasks :: r_Book_tasks))
    (l_Book_tasks : K.lookup f_Book_tasks = some ⟨oc_Book_tasks, od_Book_tasks, .func (PySem.W.fnOf "tasks" "Book.tasks" (defArgs s_Book_tasks) (defBody s_Book_tasks) (defScope s_Book_tasks) .none kV_Book_tasks dc_Book_tasks pm_Book_tasks an_Book_tasks cd_Book_tasks ct_Book_tasks), sl_Book_tasks⟩)
    (c_Book_tasks : PySem.W.codeIn K cd_Book_tasks "Book.tasks" = true)
    (k_Book_tasks : PySem.W.keepIn K (.ref f_Book_tasks) = true)
    (a_Book_rules : PySem.W.findIn K (.ref C_Book) "rules" = some (some (.ref p_Book_rules)))
    (ps_Book_rules : PySem.W.specialIn K (.ref p_Book_rules) "__get__" = some (some (.builtin "property.__get__")))
    (pt_Book_rules : PySem.W.takesIn K (.ref p_Book_rules) = some true)
    (pr_Book_rules : PySem.W.recIn K p_Book_rules "property" = some (.ref f_Book_rules :: r_Book_rules))
    (l_Book_rules : K.lookup f_Book_rules = some ⟨oc_Book_rules, od_Book_rules, .func (PySem.W.fnOf "rules" "Book.rules" (defArgs s_Book_rules) (defBody s_Book_rules) (defScope s_Book_rules) .none kV_Book_rules dc_Book_rules pm_Book_rules an_Book_rules cd_Book_rules ct_Book_rules), sl_Book_rules⟩)
    (c_Book_rules : PySem.W.codeIn K cd_Book_rules "Book.rules" = true)
    (k_Book_rules : PySem.W.keepIn K (.ref f_Book_rules) = true)
    (a_Book_with_rules : PySem.W.findIn K (.ref C_Book) "with_rules" = some (some (.ref f_Book_with_rules)))
    (i_Book_with_rules : PySem.W.isFn K (.ref f_Book_with_rules) = true)
    (l_Book_with_rules : K.lookup f_Book_with_rules = some ⟨oc_Book_with_rules, od_Book_with_rules, .func (PySem.W.fnOf "with_rules" "Book.with_rules" (defArgs s_Book_with_rules) (defBody s_Book_with_rules) (defScope s_Book_with_rules) .none kV_Book_with_rules dc_Book_with_rules pm_Book_with_rules an_Book_with_rules cd_Book_with_rules ct_Book_with_rules), sl_Book_with_rules⟩)
    (c_Book_with_rules : PySem.W.codeIn K cd_Book_with_rules "Book.with_rules" = true)
    (k_Book_with_rules : PySem.W.keepIn K (.ref f_Book_with_rules) = true)
    (a_Book_len : PySem.W.findIn K (.ref C_Book) "__len__" = some (some (.ref f_Book_len)))
    (i_Book_len : PySem.W.isFn K (.ref f_Book_len) = true)
    (l_Book_len : K.lookup f_Book_len = some ⟨oc_Book_len, od_Book_len, .func (PySem.W.fnOf "__len__" "Book.__len__" (defArgs s_Book_len) (defBody s_Book_len) (defScope s_Book_len) .none kV_Book_len dc_Book_len pm_Book_len an_Book_len cd_Book_len ct_Book_len), sl_Book_len⟩)
    (c_Book_len : PySem.W.codeIn K cd_Book_len "Book.__len__" = true)
    (k_Book_len : PySem.W.keepIn K (.ref f_Book_len) = true)
    (a_law_deck : PySem.W.nsIn K mainGlobals "_law_deck" = some (some (.ref f_law_deck)))
    (l_law_deck : K.lookup f_law_deck = some ⟨oc_law_deck, od_law_deck, .func (PySem.W.fnOf "_law_deck" "_law_deck" (defArgs s_law_deck) (defBody s_law_deck) (defScope s_law_deck) .none kV_law_deck dc_law_deck pm_law_deck an_law_deck cd_law_deck ct_law_deck), sl_law_deck⟩)
    (c_law_deck : PySem.W.codeIn K cd_law_deck "_law_deck" = true)
    (k_law_deck : PySem.W.keepIn K (.ref f_law_deck) = true)
    (a_law_draw : PySem.W.nsIn K mainGlobals "_law_draw" = some (some (.ref f_law_draw)))
    (l_law_draw : K.lookup f_law_draw = some ⟨oc_law_draw, od_law_draw, .func (PySem.W.fnOf "_law_draw" "_law_draw" (defArgs s_law_draw) (defBody s_law_draw) (defScope s_law_draw) .none kV_law_draw dc_law_draw pm_law_draw an_law_draw cd_law_draw ct_law_draw), sl_law_draw⟩)
    (c_law_draw : PySem.W.codeIn K cd_law_draw "_law_draw" = true)
    (k_law_draw : PySem.W.keepIn K (.ref f_law_draw) = true)
    (a_law_names : PySem.W.nsIn K mainGlobals "_law_names" = some (some (.ref f_law_names)))
    (l_law_names : K.lookup f_law_names = some ⟨oc_law_names, od_law_names, .func (PySem.W.fnOf "_law_names" "_law_names" (defArgs s_law_names) (defBody s_law_names) (defScope s_law_names) .none kV_law_names dc_law_names pm_law_names an_law_names cd_law_names ct_law_names), sl_law_names⟩)
    (c_law_names : PySem.W.codeIn K cd_law_names "_law_names" = true)
    (k_law_names : PySem.W.keepIn K (.ref f_law_names) = true)
    (a_law_rule : PySem.W.nsIn K mainGlobals "_law_rule" = some (some (.ref f_law_rule)))
    (l_law_rule : K.lookup f_law_rule = some ⟨oc_law_rule, od_law_rule, .func (PySem.W.fnOf "_law_rule" "_law_rule" (defArgs s_law_rule) (defBody s_law_rule) (defScope s_law_rule) .none kV_law_rule dc_law_rule pm_law_rule an_law_rule cd_law_rule ct_law_rule), sl_law_rule⟩)
    (c_law_rule : PySem.W.codeIn K cd_law_rule "_law_rule" = true)
    (k_law_rule : PySem.W.keepIn K (.ref f_law_rule) = true)
    (a_law_data : PySem.W.nsIn K mainGlobals "_law_data" = some (some (.ref f_law_data)))
    (l_law_data : K.lookup f_law_data = some ⟨oc_law_data, od_law_data, .func (PySem.W.fnOf "_law_data" "_law_data" (defArgs s_law_data) (defBody s_law_data) (defScope s_law_data) .none kV_law_data dc_law_data pm_law_data an_law_data cd_law_data ct_law_data), sl_law_data⟩)
    (c_law_data : PySem.W.codeIn K cd_law_data "_law_data" = true)
    (k_law_data : PySem.W.keepIn K (.ref f_law_data) = true)
    (a_law_order : PySem.W.nsIn K mainGlobals "_law_order" = some (some (.ref f_law_order)))
    (l_law_order : K.lookup f_law_order = some ⟨oc_law_order, od_law_order, .func (PySem.W.fnOf "_law_order" "_law_order" (defArgs s_law_order) (defBody s_law_order) (defScope s_law_order) .none kV_law_order dc_law_order pm_law_order an_law_order cd_law_order ct_law_order), sl_law_order⟩)
    (c_law_order : PySem.W.codeIn K cd_law_order "_law_order" = true)
    (k_law_order : PySem.W.keepIn K (.ref f_law_order) = true)
    (a_law_shows : PySem.W.nsIn K mainGlobals "_law_shows" = some (some (.ref f_law_shows)))
    (l_law_shows : K.lookup f_law_shows = some ⟨oc_law_shows, od_law_shows, .func (PySem.W.fnOf "_law_shows" "_law_shows" (defArgs s_law_shows) (defBody s_law_shows) (defScope s_law_shows) .none kV_law_shows dc_law_shows pm_law_shows an_law_shows cd_law_shows ct_law_shows), sl_law_shows⟩)
    (c_law_shows : PySem.W.codeIn K cd_law_shows "_law_shows" = true)
    (k_law_shows : PySem.W.keepIn K (.ref f_law_shows) = true)
    (a_law_strange : PySem.W.nsIn K mainGlobals "_law_strange" = some (some (.ref f_law_strange)))
    (l_law_strange : K.lookup f_law_strange = some ⟨oc_law_strange, od_law_strange, .func (PySem.W.fnOf "_law_strange" "_law_strange" (defArgs s_law_strange) (defBody s_law_strange) (defScope s_law_strange) .none kV_law_strange dc_law_strange pm_law_strange an_law_strange cd_law_strange ct_law_strange), sl_law_strange⟩)
    (c_law_strange : PySem.W.codeIn K cd_law_strange "_law_strange" = true)
    (k_law_strange : PySem.W.keepIn K (.ref f_law_strange) = true)
    (a_law_bad_rule : PySem.W.nsIn K mainGlobals "_law_bad_rule" = some (some (.ref f_law_bad_rule)))
    (l_law_bad_rule : K.lookup f_law_bad_rule = some ⟨oc_law_bad_rule, od_law_bad_rule, .func (PySem.W.fnOf "_law_bad_rule" "_law_bad_rule" (defArgs s_law_bad_rule) (defBody s_law_bad_rule) (defScope s_law_bad_rule) .none kV_law_bad_rule dc_law_bad_rule pm_law_bad_rule an_law_bad_rule cd_law_bad_rule ct_law_bad_rule), sl_law_bad_rule⟩)
    (c_law_bad_rule : PySem.W.codeIn K cd_law_bad_rule "_law_bad_rule" = true)
    (k_law_bad_rule : PySem.W.keepIn K (.ref f_law_bad_rule) = true)
    (a_law_rule_due : PySem.W.nsIn K mainGlobals "_law_rule_due" = some (some (.ref f_law_rule_due)))
    (l_law_rule_due : K.lookup f_law_rule_due = some ⟨oc_law_rule_due, od_law_rule_due, .func (PySem.W.fnOf "_law_rule_due" "_law_rule_due" (defArgs s_law_rule_due) (defBody s_law_rule_due) (defScope s_law_rule_due) .none kV_law_rule_due dc_law_rule_due pm_law_rule_due an_law_rule_due cd_law_rule_due ct_law_rule_due), sl_law_rule_due⟩)
    (c_law_rule_due : PySem.W.codeIn K cd_law_rule_due "_law_rule_due" = true)
    (k_law_rule_due : PySem.W.keepIn K (.ref f_law_rule_due) = true)
    (a_law_call : PySem.W.nsIn K mainGlobals "_law_call" = some (some (.ref f_law_call)))
    (l_law_call : K.lookup f_law_call = some ⟨oc_law_call, od_law_call, .func (PySem.W.fnOf "_law_call" "_law_call" (defArgs s_law_call) (defBody s_law_call) (defScope s_law_call) .none kV_law_call dc_law_call pm_law_call an_law_call cd_law_call ct_law_call), sl_law_call⟩)
    (c_law_call : PySem.W.codeIn K cd_law_call "_law_call" = true)
    (k_law_call : PySem.W.keepIn K (.ref f_law_call) = true)
    (a_law_raised : PySem.W.nsIn K mainGlobals "_law_raised" = some (some (.ref f_law_raised)))
    (l_law_raised : K.lookup f_law_raised = some ⟨oc_law_raised, od_law_raised, .func (PySem.W.fnOf "_law_raised" "_law_raised" (defArgs s_law_raised) (defBody s_law_raised) (defScope s_law_raised) .none kV_law_raised dc_law_raised pm_law_raised an_law_raised cd_law_raised ct_law_raised), sl_law_raised⟩)
    (c_law_raised : PySem.W.codeIn K cd_law_raised "_law_raised" = true)
    (k_law_raised : PySem.W.keepIn K (.ref f_law_raised) = true)
    (a_law_based : PySem.W.nsIn K mainGlobals "_law_based" = some (some (.ref f_law_based)))
    (l_law_based : K.lookup f_law_based = some ⟨oc_law_based, od_law_based, .func (PySem.W.fnOf "_law_based" "_law_based" (defArgs s_law_based) (defBody s_law_based) (defScope s_law_based) .none kV_law_based dc_law_based pm_law_based an_law_based cd_law_based ct_law_based), sl_law_based⟩)
    (c_law_based : PySem.W.codeIn K cd_law_based "_law_based" = true)
    (k_law_based : PySem.W.keepIn K (.ref f_law_based) = true)
    (a_law_taken_later : PySem.W.nsIn K mainGlobals "_law_taken_later" = some (some (.ref f_law_taken_later)))
    (l_law_taken_later : K.lookup f_law_taken_later = some ⟨oc_law_taken_later, od_law_taken_later, .func (PySem.W.fnOf "_law_taken_later" "_law_taken_later" (defArgs s_law_taken_later) (defBody s_law_taken_later) (defScope s_law_taken_later) .none kV_law_taken_later dc_law_taken_later pm_law_taken_later an_law_taken_later cd_law_taken_later ct_law_taken_later), sl_law_taken_later⟩)
    (c_law_taken_later : PySem.W.codeIn K cd_law_taken_later "_law_taken_later" = true)
    (k_law_taken_later : PySem.W.keepIn K (.ref f_law_taken_later) = true)
    (a_law : PySem.W.nsIn K mainGlobals "law" = some (some (.ref f_law)))
    (l_law : K.lookup f_law = some ⟨oc_law, od_law, .func (PySem.W.fnOf "law" "law" (defArgs s_law) (defBody s_law) (defScope s_law) .none kV_law dc_law pm_law an_law cd_law ct_law), sl_law⟩)
    (c_law : PySem.W.codeIn K cd_law "law" = true)
    (k_law : PySem.W.keepIn K (.ref f_law) = true)
    (z_ValueError : PySem.W.nsIn K mainGlobals "ValueError" = some none)
    (z_all : PySem.W.nsIn K mainGlobals "all" = some none)
    (z_int : PySem.W.nsIn K mainGlobals "int" = some none)
    (z_isinstance : PySem.W.nsIn K mainGlobals "isinstance" = some none)
    (z_len : PySem.W.nsIn K mainGlobals "len" = some none)
    (z_list : PySem.W.nsIn K mainGlobals "list" = some none)
    (z_range : PySem.W.nsIn K mainGlobals "range" = some none)
    (z_str : PySem.W.nsIn K mainGlobals "str" = some none)
    (z_tuple : PySem.W.nsIn K mainGlobals "tuple" = some none)
    (xa_Book : PySem.W.findIn K (.ref C_Book) "__class__" = some (some (.builtin "object.__class__")))
    (xn_Book : PySem.W.specialIn K (.builtin "object.__class__") "__get__" = some (some (.builtin "getset_descriptor.__get__")))
    (xt_Book : PySem.W.takesIn K (.builtin "object.__class__") = some true)
    (xm_Book : PySem.W.mroIn K C_Book (.type "object") = some true)
    (kv_InvalidRule : PySem.W.subIn K (.ref C_InvalidRule) (.type "ValueError") = some true)
    (kv_UnknownTask : PySem.W.subIn K (.ref C_UnknownTask) (.type "ValueError") = some true)
    (kv_SameTask : PySem.W.subIn K (.ref C_SameTask) (.type "ValueError") = some true)
    : ∃ fd : FuncData, (∀ (s : Shared) (v : Value), BindsTo s fd ⟨[v], []⟩ [("script", v)]) ∧ ∀ base : Heap, K.In base → base.Ns mainGlobals mg → FnOk l.prog w K mg base CX0 9 fa fd ["script"] (spLaw K) := by
  have e := hfa.symm.trans (PySem.W.mg_of X G a_law)
  cases e
  have F_PlanError_init := fun_mk (st := s_PlanError_init) l_PlanError_init c_PlanError_init k_PlanError_init
  have b_PlanError_init := F_PlanError_init.binds (ps := ["self", "value"]) fun _ _ _ _ _ _ us hl => match us, hl with | [_, _], _ => rfl
  have F_is_name := fun_mk (st := s_is_name) l_is_name c_is_name k_is_name
  have b_is_name := F_is_name.binds (ps := ["text"]) fun _ _ _ _ _ _ us hl => match us, hl with | [_], _ => rfl
  have F_check_tasks := fun_mk (st := s_check_tasks) l_check_tasks c_check_tasks k_check_tasks
  have b_check_tasks := F_check_tasks.binds (ps := ["tasks"]) fun _ _ _ _ _ _ us hl => match us, hl with | [_], _ => rfl
  have F_check_rule := fun_mk (st := s_check_rule) l_check_rule c_check_rule k_check_rule
  have b_check_rule := F_check_rule.binds (ps := ["rule", "tasks"]) fun _ _ _ _ _ _ us hl => match us, hl with | [_, _], _ => rfl
  have F_Book_init := fun_mk (st := s_Book_init) l_Book_init c_Book_init k_Book_init
  have b_Book_init := F_Book_init.binds (ps := ["self", "tasks", "rules"]) fun _ _ _ _ _ _ us hl => match us, hl with | [_, _, _], _ => rfl
  have F_Book_tasks := fun_mk (st := s_Book_tasks) l_Book_tasks c_Book_tasks k_Book_tasks
  have b_Book_tasks := F_Book_tasks.binds (ps := ["self"]) fun _ _ _ _ _ _ us hl => match us, hl with | [_], _ => rfl
  have F_Book_rules := fun_mk (st := s_Book_rules) l_Book_rules c_Book_rules k_Book_rules
  have b_Book_rules := F_Book_rules.binds (ps := ["self"]) fun _ _ _ _ _ _ us hl => match us, hl with | [_], _ => rfl
  have F_Book_with_rules := fun_mk (st := s_Book_with_rules) l_Book_with_rules c_Book_with_rules k_Book_with_rules
  have b_Book_with_rules := F_Book_with_rules.binds (ps := ["self", "rules"]) fun _ _ _ _ _ _ us hl => match us, hl with | [_, _], _ => rfl
  have F_Book_len := fun_mk (st := s_Book_len) l_Book_len c_Book_len k_Book_len
  have b_Book_len := F_Book_len.binds (ps := ["self"]) fun _ _ _ _ _ _ us hl => match us, hl with | [_], _ => rfl
  have F_law_deck := fun_mk (st := s_law_deck) l_law_deck c_law_deck k_law_deck
  have b_law_deck := F_law_deck.binds (ps := ["script"]) fun _ _ _ _ _ _ us hl => match us, hl with | [_], _ => rfl
  have F_law_draw := fun_mk (st := s_law_draw) l_law_draw c_law_draw k_law_draw
  have b_law_draw := F_law_draw.binds (ps := ["deck", "many"]) fun _ _ _ _ _ _ us hl => match us, hl with | [_, _], _ => rfl
  have F_law_names := fun_mk (st := s_law_names) l_law_names c_law_names k_law_names
  have b_law_names := F_law_names.binds (ps := ["deck", "many"]) fun _ _ _ _ _ _ us hl => match us, hl with | [_, _], _ => rfl
  have F_law_rule := fun_mk (st := s_law_rule) l_law_rule c_law_rule k_law_rule
  have b_law_rule := F_law_rule.binds (ps := ["deck", "task_list"]) fun _ _ _ _ _ _ us hl => match us, hl with | [_, _], _ => rfl
  have F_law_data := fun_mk (st := s_law_data) l_law_data c_law_data k_law_data
  have b_law_data := F_law_data.binds (ps := ["deck", "most_tasks", "most_rules"]) fun _ _ _ _ _ _ us hl => match us, hl with | [_, _, _], _ => rfl
  have F_law_order := fun_mk (st := s_law_order) l_law_order c_law_order k_law_order
  have b_law_order := F_law_order.binds (ps := ["deck", "many"]) fun _ _ _ _ _ _ us hl => match us, hl with | [_, _], _ => rfl
  have F_law_shows := fun_mk (st := s_law_shows) l_law_shows c_law_shows k_law_shows
  have b_law_shows := F_law_shows.binds (ps := ["deck", "book", "task_list", "rule_list"]) fun _ _ _ _ _ _ us hl => match us, hl with | [_, _, _, _], _ => rfl
  have F_law_strange := fun_mk (st := s_law_strange) l_law_strange c_law_strange k_law_strange
  have b_law_strange := F_law_strange.binds (ps := ["deck", "task_list"]) fun _ _ _ _ _ _ us hl => match us, hl with | [_, _], _ => rfl
  have F_law_bad_rule := fun_mk (st := s_law_bad_rule) l_law_bad_rule c_law_bad_rule k_law_bad_rule
  have b_law_bad_rule := F_law_bad_rule.binds (ps := ["deck", "task_list"]) fun _ _ _ _ _ _ us hl => match us, hl with | [_, _], _ => rfl
  have F_law_rule_due := fun_mk (st := s_law_rule_due) l_law_rule_due c_law_rule_due k_law_rule_due
  have b_law_rule_due := F_law_rule_due.binds (ps := ["task_list", "rule_list"]) fun _ _ _ _ _ _ us hl => match us, hl with | [_, _], _ => rfl
  have F_law_call := fun_mk (st := s_law_call) l_law_call c_law_call k_law_call
  have b_law_call := F_law_call.binds (ps := ["book", "task_list", "rule_list", "way"]) fun _ _ _ _ _ _ us hl => match us, hl with | [_, _, _, _], _ => rfl
  have F_law_raised := fun_mk (st := s_law_raised) l_law_raised c_law_raised k_law_raised
  have b_law_raised := F_law_raised.binds (ps := ["book", "task_list", "rule_list", "way"]) fun _ _ _ _ _ _ us hl => match us, hl with | [_, _, _, _], _ => rfl
  have F_law_based := fun_mk (st := s_law_based) l_law_based c_law_based k_law_based
  have b_law_based := F_law_based.binds (ps := ["book", "task_list", "rule_list", "way"]) fun _ _ _ _ _ _ us hl => match us, hl with | [_, _, _, _], _ => rfl
  have F_law_taken_later := fun_mk (st := s_law_taken_later) l_law_taken_later c_law_taken_later k_law_taken_later
  have b_law_taken_later := F_law_taken_later.binds (ps := ["deck", "task_list", "rule"]) fun _ _ _ _ _ _ us hl => match us, hl with | [_, _, _], _ => rfl
  have F_law := fun_mk (st := s_law) l_law c_law k_law
  have b_law := F_law.binds (ps := ["script"]) fun _ _ _ _ _ _ us hl => match us, hl with | [_], _ => rfl
  let T : Tx K w mg := {  f_PlanError_init := f_PlanError_init, C_InvalidRule := C_InvalidRule, mg_InvalidRule := PySem.W.mg_of X G aC_InvalidRule, ox_InvalidRule := ⟨⟨_, _, _, _, _, _, _, _, _, _, _, _, _, _, _, xL_InvalidRule, rfl⟩, sa_InvalidRule, eC_InvalidRule, tC_InvalidRule, kC_InvalidRule⟩, ic_InvalidRule := ic_InvalidRule, nv_InvalidRule := nv_InvalidRule, xf_InvalidRule := ⟨ga_InvalidRule, gt_InvalidRule, eC_InvalidRule, hC_InvalidRule⟩, C_UnknownTask := C_UnknownTask, mg_UnknownTask := PySem.W.mg_of X G aC_UnknownTask, ox_UnknownTask := ⟨⟨_, _, _, _, _, _, _, _, _, _, _, _, _, _, _, xL_UnknownTask, rfl⟩, sa_UnknownTask, eC_UnknownTask, tC_UnknownTask, kC_UnknownTask⟩, ic_UnknownTask := ic_UnknownTask, nv_UnknownTask := nv_UnknownTask, xf_UnknownTask := ⟨ga_UnknownTask, gt_UnknownTask, eC_UnknownTask, hC_UnknownTask⟩, C_SameTask := C_SameTask, mg_SameTask := PySem.W.mg_of X G aC_SameTask, ox_SameTask := ⟨⟨_, _, _, _, _, _, _, _, _, _, _, _, _, _, _, xL_SameTask, rfl⟩, sa_SameTask, eC_SameTask, tC_SameTask, kC_SameTask⟩, ic_SameTask := ic_SameTask, nv_SameTask := nv_SameTask, xf_SameTask := ⟨ga_SameTask, gt_SameTask, eC_SameTask, hC_SameTask⟩, xc_InvalidRule := ⟨ga_InvalidRule, gt_InvalidRule, eC_InvalidRule, hC_InvalidRule, xca_InvalidRule, xcn_InvalidRule, xct_InvalidRule, xcm_InvalidRule⟩, xc_UnknownTask := ⟨ga_UnknownTask, gt_UnknownTask, eC_UnknownTask, hC_UnknownTask, xca_UnknownTask, xcn_UnknownTask, xct_UnknownTask, xcm_UnknownTask⟩, xc_SameTask := ⟨ga_SameTask, gt_SameTask, eC_SameTask, hC_SameTask, xca_SameTask, xcn_SameTask, xct_SameTask, xcm_SameTask⟩, ti := ti, C_PlanError := C_PlanError, mg_PlanError := PySem.W.mg_of X G aC_PlanError, em_InvalidRule_InvalidRule := PySem.W.exm_ref eC_InvalidRule hC_InvalidRule tC_InvalidRule sb_InvalidRule_InvalidRule, em_UnknownTask_UnknownTask := PySem.W.exm_ref eC_UnknownTask hC_UnknownTask tC_UnknownTask sb_UnknownTask_UnknownTask, em_SameTask_SameTask := PySem.W.exm_ref eC_SameTask hC_SameTask tC_SameTask sb_SameTask_SameTask, em_InvalidRule_PlanError := PySem.W.exm_ref eC_PlanError hC_PlanError tC_PlanError sb_InvalidRule_PlanError, em_UnknownTask_PlanError := PySem.W.exm_ref eC_PlanError hC_PlanError tC_PlanError sb_UnknownTask_PlanError, em_SameTask_PlanError := PySem.W.exm_ref eC_PlanError hC_PlanError tC_PlanError sb_SameTask_PlanError, en_UnknownTask_InvalidRule := PySem.W.exm_ref eC_InvalidRule hC_InvalidRule tC_InvalidRule sn_UnknownTask_InvalidRule, en_SameTask_InvalidRule := PySem.W.exm_ref eC_InvalidRule hC_InvalidRule tC_InvalidRule sn_SameTask_InvalidRule, en_SameTask_UnknownTask := PySem.W.exm_ref eC_UnknownTask hC_UnknownTask tC_UnknownTask sn_SameTask_UnknownTask, C_Book := C_Book, cl_Book := ⟨pg_Book, hd_Book, po_Book, sa_Book⟩, mg_Book := PySem.W.mg_of X G aC_Book, n_Book_tasks := n_Book_tasks, n_Book_rules := n_Book_rules, d__TASKS_IN := d__TASKS_IN, e__TASKS_IN := e__TASKS_IN, i__TASKS_IN := i__TASKS_IN, g__TASKS_IN := PySem.W.mg_of X G ga__TASKS_IN, kd__TASKS_IN := ⟨gl__TASKS_IN, gk__TASKS_IN, gs__TASKS_IN⟩, ks__TASKS_IN := gn__TASKS_IN, k__TASKS_IN_before := ⟨_, gv__TASKS_IN_before⟩, k__TASKS_IN_upto := ⟨_, gv__TASKS_IN_upto⟩, k__TASKS_IN_same := ⟨_, gv__TASKS_IN_same⟩, k__TASKS_IN_apart := ⟨_, gv__TASKS_IN_apart⟩, k__TASKS_IN_far := ⟨_, gv__TASKS_IN_far⟩, k__TASKS_IN_next := ⟨_, gv__TASKS_IN_next⟩, k__TASKS_IN_first := ⟨_, gv__TASKS_IN_first⟩, k__TASKS_IN_last := ⟨_, gv__TASKS_IN_last⟩, t__LONGEST_NAME := _, v__LONGEST_NAME := PySem.W.mg_of X G gv__LONGEST_NAME, d_PlanError_init := _, F_PlanError_init := F_PlanError_init, b_PlanError_init := b_PlanError_init, f_is_name := f_is_name, d_is_name := _, F_is_name := F_is_name, b_is_name := b_is_name, g_is_name := PySem.W.mg_of X G a_is_name, f_check_tasks := f_check_tasks, d_check_tasks := _, F_check_tasks := F_check_tasks, b_check_tasks := b_check_tasks, g_check_tasks := PySem.W.mg_of X G a_check_tasks, f_check_rule := f_check_rule, d_check_rule := _, F_check_rule := F_check_rule, b_check_rule := b_check_rule, g_check_rule := PySem.W.mg_of X G a_check_rule, f_Book_init := f_Book_init, d_Book_init := _, F_Book_init := F_Book_init, b_Book_init := b_Book_init, mk_Book := ⟨ms_Book, a_Book_init, i_Book_init, kc_Book⟩, f_Book_tasks := f_Book_tasks, d_Book_tasks := _, F_Book_tasks := F_Book_tasks, b_Book_tasks := b_Book_tasks, p_Book_tasks := p_Book_tasks, pr_Book_tasks := ⟨a_Book_tasks, ps_Book_tasks, pt_Book_tasks, ⟨_, pr_Book_tasks⟩⟩, f_Book_rules := f_Book_rules, d_Book_rules := _, F_Book_rules := F_Book_rules, b_Book_rules := b_Book_rules, p_Book_rules := p_Book_rules, pr_Book_rules := ⟨a_Book_rules, ps_Book_rules, pt_Book_rules, ⟨_, pr_Book_rules⟩⟩, f_Book_with_rules := f_Book_with_rules, d_Book_with_rules := _, F_Book_with_rules := F_Book_with_rules, b_Book_with_rules := b_Book_with_rules, me_Book_with_rules := ⟨a_Book_with_rules, i_Book_with_rules, k_Book_with_rules⟩, f_Book_len := f_Book_len, d_Book_len := _, F_Book_len := F_Book_len, b_Book_len := b_Book_len, me_Book_len := ⟨a_Book_len, i_Book_len, k_Book_len⟩, f_law_deck := f_law_deck, d_law_deck := _, F_law_deck := F_law_deck, b_law_deck := b_law_deck, g_law_deck := PySem.W.mg_of X G a_law_deck, f_law_draw := f_law_draw, d_law_draw := _, F_law_draw := F_law_draw, b_law_draw := b_law_draw, g_law_draw := PySem.W.mg_of X G a_law_draw, f_law_names := f_law_names, d_law_names := _, F_law_names := F_law_names, b_law_names := b_law_names, g_law_names := PySem.W.mg_of X G a_law_names, f_law_rule := f_law_rule, d_law_rule := _, F_law_rule := F_law_rule, b_law_rule := b_law_rule, g_law_rule := PySem.W.mg_of X G a_law_rule, f_law_data := f_law_data, d_law_data := _, F_law_data := F_law_data, b_law_data := b_law_data, g_law_data := PySem.W.mg_of X G a_law_data, f_law_order := f_law_order, d_law_order := _, F_law_order := F_law_order, b_law_order := b_law_order, g_law_order := PySem.W.mg_of X G a_law_order, f_law_shows := f_law_shows, d_law_shows := _, F_law_shows := F_law_shows, b_law_shows := b_law_shows, g_law_shows := PySem.W.mg_of X G a_law_shows, f_law_strange := f_law_strange, d_law_strange := _, F_law_strange := F_law_strange, b_law_strange := b_law_strange, g_law_strange := PySem.W.mg_of X G a_law_strange, f_law_bad_rule := f_law_bad_rule, d_law_bad_rule := _, F_law_bad_rule := F_law_bad_rule, b_law_bad_rule := b_law_bad_rule, g_law_bad_rule := PySem.W.mg_of X G a_law_bad_rule, f_law_rule_due := f_law_rule_due, d_law_rule_due := _, F_law_rule_due := F_law_rule_due, b_law_rule_due := b_law_rule_due, g_law_rule_due := PySem.W.mg_of X G a_law_rule_due, f_law_call := f_law_call, d_law_call := _, F_law_call := F_law_call, b_law_call := b_law_call, g_law_call := PySem.W.mg_of X G a_law_call, f_law_raised := f_law_raised, d_law_raised := _, F_law_raised := F_law_raised, b_law_raised := b_law_raised, g_law_raised := PySem.W.mg_of X G a_law_raised, f_law_based := f_law_based, d_law_based := _, F_law_based := F_law_based, b_law_based := b_law_based, g_law_based := PySem.W.mg_of X G a_law_based, f_law_taken_later := f_law_taken_later, d_law_taken_later := _, F_law_taken_later := F_law_taken_later, b_law_taken_later := b_law_taken_later, g_law_taken_later := PySem.W.mg_of X G a_law_taken_later, f_law := fa, d_law := _, F_law := F_law, b_law := b_law, g_law := PySem.W.mg_of X G a_law, m_ValueError := PySem.W.mg_none_of X G z_ValueError, m_all := PySem.W.mg_none_of X G z_all, m_int := PySem.W.mg_none_of X G z_int, m_isinstance := PySem.W.mg_none_of X G z_isinstance, m_len := PySem.W.mg_none_of X G z_len, m_list := PySem.W.mg_none_of X G z_list, m_range := PySem.W.mg_none_of X G z_range, m_str := PySem.W.mg_none_of X G z_str, m_tuple := PySem.W.mg_none_of X G z_tuple, xa_Book := xa_Book, xn_Book := xn_Book, xt_Book := xt_Book, xm_Book := xm_Book, kv_InvalidRule := kit_err (by decide +kernel) kv_InvalidRule, kv_UnknownTask := kit_err (by decide +kernel) kv_UnknownTask, kv_SameTask := kit_err (by decide +kernel) kv_SameTask }
  exact ⟨PySem.W.fnOf "law" "law" (defArgs s_law) (defBody s_law) (defScope s_law) .none kV_law dc_law pm_law an_law cd_law ct_law, fun s v => .of_eq rfl, fun base _ _ => ok_law T⟩
end K03
open PySem PySem.W PyProof.Rows
set_option maxHeartbeats 0 in
theorem PySem.Challenge.cw_plandays_k03_rules_let_and_refused_holds : PySem.Challenge.rw_plandays_k03_rules_let_and_refused.Holds := by
  w_on; o_law; k_head; (case hw => w_witness2)
  k_fill
  refine L2.walk_of (l := PySem.Challenge.rw_plandays_k03_rules_let_and_refused) (n := 63) (k := 9) (x := "script") (CX := fun _ => L2.CX0) (sp := fun w => K03.spLaw _) rfl (by decide) rfl ⟨rfl, by decide, by decide⟩ (fun w h Y => PySem.W.kIn_of Y) ?F (fun _ _ a ns hl _ hS => ⟨a, ns, rfl, hS, hl, fun _ => rfl⟩) (fun _ _ _ _ _ h => h)
  case F =>
    intro w mg fa h KX G hmg
    refine' K03.all_mk KX G hmg ?aC_Book ?pg_Book ?hd_Book ?po_Book ?sa_Book ?ms_Book ?kc_Book ?n_Book_tasks ?n_Book_rules ?aC_InvalidRule ?eC_InvalidRule ?tC_InvalidRule ?hC_InvalidRule ?xL_InvalidRule ?sa_InvalidRule ?ga_InvalidRule ?gt_InvalidRule ?nv_InvalidRule ?ic_InvalidRule ?kC_InvalidRule ?aC_UnknownTask ?eC_UnknownTask ?tC_UnknownTask ?hC_UnknownTask ?xL_UnknownTask ?sa_UnknownTask ?ga_UnknownTask ?gt_UnknownTask ?nv_UnknownTask ?ic_UnknownTask ?kC_UnknownTask ?aC_SameTask ?eC_SameTask ?tC_SameTask ?hC_SameTask ?xL_SameTask ?sa_SameTask ?ga_SameTask ?gt_SameTask ?nv_SameTask ?ic_SameTask ?kC_SameTask ?aC_PlanError ?eC_PlanError ?tC_PlanError ?hC_PlanError ?xca_InvalidRule ?xcn_InvalidRule ?xct_InvalidRule ?xcm_InvalidRule ?xca_UnknownTask ?xcn_UnknownTask ?xct_UnknownTask ?xcm_UnknownTask ?xca_SameTask ?xcn_SameTask ?xct_SameTask ?xcm_SameTask ?ti ?sb_InvalidRule_InvalidRule ?sb_UnknownTask_UnknownTask ?sb_SameTask_SameTask ?sb_InvalidRule_PlanError ?sb_UnknownTask_PlanError ?sb_SameTask_PlanError ?sn_UnknownTask_InvalidRule ?sn_SameTask_InvalidRule ?sn_SameTask_UnknownTask ?ga__TASKS_IN ?gl__TASKS_IN ?gk__TASKS_IN ?gs__TASKS_IN ?gn__TASKS_IN ?gv__TASKS_IN_before ?gv__TASKS_IN_upto ?gv__TASKS_IN_same ?gv__TASKS_IN_apart ?gv__TASKS_IN_far ?gv__TASKS_IN_next ?gv__TASKS_IN_first ?gv__TASKS_IN_last ?gv__LONGEST_NAME ?l_PlanError_init ?c_PlanError_init ?k_PlanError_init ?a_is_name ?l_is_name ?c_is_name ?k_is_name ?a_check_tasks ?l_check_tasks ?c_check_tasks ?k_check_tasks ?a_check_rule ?l_check_rule ?c_check_rule ?k_check_rule ?a_Book_init ?i_Book_init ?l_Book_init ?c_Book_init ?k_Book_init ?a_Book_tasks ?ps_Book_tasks ?pt_Book_tasks ?pr_Book_tasks ?l_Book_tasks ?c_Book_tasks ?k_Book_tasks ?a_Book_rules ?ps_Book_rules ?pt_Book_rules ?pr_Book_rules ?l_Book_rules ?c_Book_rules ?k_Book_rules ?a_Book_with_rules ?i_Book_with_rules ?l_Book_with_rules ?c_Book_with_rules ?k_Book_with_rules ?a_Book_len ?i_Book_len ?l_Book_len ?c_Book_len ?k_Book_len ?a_law_deck ?l_law_deck ?c_law_deck ?k_law_deck ?a_law_draw ?l_law_draw ?c_law_draw ?k_law_draw ?a_law_names ?l_law_names ?c_law_names ?k_law_names ?a_law_rule ?l_law_rule ?c_law_rule ?k_law_rule ?a_law_data ?l_law_data ?c_law_data ?k_law_data ?a_law_order ?l_law_order ?c_law_order ?k_law_order ?a_law_shows ?l_law_shows ?c_law_shows ?k_law_shows ?a_law_strange ?l_law_strange ?c_law_strange ?k_law_strange ?a_law_bad_rule ?l_law_bad_rule ?c_law_bad_rule ?k_law_bad_rule ?a_law_rule_due ?l_law_rule_due ?c_law_rule_due ?k_law_rule_due ?a_law_call ?l_law_call ?c_law_call ?k_law_call ?a_law_raised ?l_law_raised ?c_law_raised ?k_law_raised ?a_law_based ?l_law_based ?c_law_based ?k_law_based ?a_law_taken_later ?l_law_taken_later ?c_law_taken_later ?k_law_taken_later ?a_law ?l_law ?c_law ?k_law ?z_ValueError ?z_all ?z_int ?z_isinstance ?z_len ?z_list ?z_range ?z_str ?z_tuple ?xa_Book ?xn_Book ?xt_Book ?xm_Book ?kv_InvalidRule ?kv_UnknownTask ?kv_SameTask
    (case aC_Book => k_is)
    (case pg_Book => k_is)
    (case hd_Book => k_is)
    (case po_Book => k_is)
    (case sa_Book => k_is)
    (case ms_Book => k_is)
    (case kc_Book => k_is)
    (case n_Book_tasks => k_is)
    (case n_Book_rules => k_is)
    (case aC_InvalidRule => k_is)
    (case eC_InvalidRule => k_is)
    (case tC_InvalidRule => k_is)
    (case hC_InvalidRule => k_is)
    (case xL_InvalidRule => k_is)
    (case sa_InvalidRule => k_is)
    (case ga_InvalidRule => k_is)
    (case gt_InvalidRule => k_is)
    (case nv_InvalidRule => k_is)
    (case ic_InvalidRule => k_is)
    (case kC_InvalidRule => k_is)
    (case aC_UnknownTask => k_is)
    (case eC_UnknownTask => k_is)
    (case tC_UnknownTask => k_is)
    (case hC_UnknownTask => k_is)
    (case xL_UnknownTask => k_is)
    (case sa_UnknownTask => k_is)
    (case ga_UnknownTask => k_is)
    (case gt_UnknownTask => k_is)
    (case nv_UnknownTask => k_is)
    (case ic_UnknownTask => k_is)
    (case kC_UnknownTask => k_is)
    (case aC_SameTask => k_is)
    (case eC_SameTask => k_is)
    (case tC_SameTask => k_is)
    (case hC_SameTask => k_is)
    (case xL_SameTask => k_is)
    (case sa_SameTask => k_is)
    (case ga_SameTask => k_is)
    (case gt_SameTask => k_is)
    (case nv_SameTask => k_is)
    (case ic_SameTask => k_is)
    (case kC_SameTask => k_is)
    (case aC_PlanError => k_is)
    (case eC_PlanError => k_is)
    (case tC_PlanError => k_is)
    (case hC_PlanError => k_is)
    (case xca_InvalidRule => k_is)
    (case xcn_InvalidRule => k_is)
    (case xct_InvalidRule => k_is)
    (case xcm_InvalidRule => k_is)
    (case xca_UnknownTask => k_is)
    (case xcn_UnknownTask => k_is)
    (case xct_UnknownTask => k_is)
    (case xcm_UnknownTask => k_is)
    (case xca_SameTask => k_is)
    (case xcn_SameTask => k_is)
    (case xct_SameTask => k_is)
    (case xcm_SameTask => k_is)
    (case ti => k_is)
    (case sb_InvalidRule_InvalidRule => first | rfl | k_is)
    (case sb_UnknownTask_UnknownTask => first | rfl | k_is)
    (case sb_SameTask_SameTask => first | rfl | k_is)
    (case sb_InvalidRule_PlanError => first | rfl | k_is)
    (case sb_UnknownTask_PlanError => first | rfl | k_is)
    (case sb_SameTask_PlanError => first | rfl | k_is)
    (case sn_UnknownTask_InvalidRule => k_is)
    (case sn_SameTask_InvalidRule => k_is)
    (case sn_SameTask_UnknownTask => k_is)
    (case ga__TASKS_IN => k_is)
    (case gl__TASKS_IN => k_is)
    (case gk__TASKS_IN => k_keys)
    (case gs__TASKS_IN => decide)
    (case gn__TASKS_IN => first | rfl | decide +kernel)
    (case gv__TASKS_IN_before => k_is)
    (case gv__TASKS_IN_upto => k_is)
    (case gv__TASKS_IN_same => k_is)
    (case gv__TASKS_IN_apart => k_is)
    (case gv__TASKS_IN_far => k_is)
    (case gv__TASKS_IN_next => k_is)
    (case gv__TASKS_IN_first => k_is)
    (case gv__TASKS_IN_last => k_is)
    (case gv__LONGEST_NAME => k_is)
    (case l_PlanError_init => k_is)
    (case c_PlanError_init => k_is)
    (case k_PlanError_init => k_is)
    (case a_is_name => k_is)
    (case l_is_name => k_is)
    (case c_is_name => k_is)
    (case k_is_name => k_is)
    (case a_check_tasks => k_is)
    (case l_check_tasks => k_is)
    (case c_check_tasks => k_is)
    (case k_check_tasks => k_is)
    (case a_check_rule => k_is)
    (case l_check_rule => k_is)
    (case c_check_rule => k_is)
    (case k_check_rule => k_is)
    (case a_Book_init => k_is)
    (case i_Book_init => k_is)
    (case l_Book_init => k_is)
    (case c_Book_init => k_is)
    (case k_Book_init => k_is)
    (case a_Book_tasks => k_is)
    (case ps_Book_tasks => k_is)
    (case pt_Book_tasks => k_is)
    (case pr_Book_tasks => k_is)
    (case l_Book_tasks => k_is)
    (case c_Book_tasks => k_is)
    (case k_Book_tasks => k_is)
    (case a_Book_rules => k_is)
    (case ps_Book_rules => k_is)
    (case pt_Book_rules => k_is)
    (case pr_Book_rules => k_is)
    (case l_Book_rules => k_is)
    (case c_Book_rules => k_is)
    (case k_Book_rules => k_is)
    (case a_Book_with_rules => k_is)
    (case i_Book_with_rules => k_is)
    (case l_Book_with_rules => k_is)
    (case c_Book_with_rules => k_is)
    (case k_Book_with_rules => k_is)
    (case a_Book_len => k_is)
    (case i_Book_len => k_is)
    (case l_Book_len => k_is)
    (case c_Book_len => k_is)
    (case k_Book_len => k_is)
    (case a_law_deck => k_is)
    (case l_law_deck => k_is)
    (case c_law_deck => k_is)
    (case k_law_deck => k_is)
    (case a_law_draw => k_is)
    (case l_law_draw => k_is)
    (case c_law_draw => k_is)
    (case k_law_draw => k_is)
    (case a_law_names => k_is)
    (case l_law_names => k_is)
    (case c_law_names => k_is)
    (case k_law_names => k_is)
    (case a_law_rule => k_is)
    (case l_law_rule => k_is)
    (case c_law_rule => k_is)
    (case k_law_rule => k_is)
    (case a_law_data => k_is)
    (case l_law_data => k_is)
    (case c_law_data => k_is)
    (case k_law_data => k_is)
    (case a_law_order => k_is)
    (case l_law_order => k_is)
    (case c_law_order => k_is)
    (case k_law_order => k_is)
    (case a_law_shows => k_is)
    (case l_law_shows => k_is)
    (case c_law_shows => k_is)
    (case k_law_shows => k_is)
    (case a_law_strange => k_is)
    (case l_law_strange => k_is)
    (case c_law_strange => k_is)
    (case k_law_strange => k_is)
    (case a_law_bad_rule => k_is)
    (case l_law_bad_rule => k_is)
    (case c_law_bad_rule => k_is)
    (case k_law_bad_rule => k_is)
    (case a_law_rule_due => k_is)
    (case l_law_rule_due => k_is)
    (case c_law_rule_due => k_is)
    (case k_law_rule_due => k_is)
    (case a_law_call => k_is)
    (case l_law_call => k_is)
    (case c_law_call => k_is)
    (case k_law_call => k_is)
    (case a_law_raised => k_is)
    (case l_law_raised => k_is)
    (case c_law_raised => k_is)
    (case k_law_raised => k_is)
    (case a_law_based => k_is)
    (case l_law_based => k_is)
    (case c_law_based => k_is)
    (case k_law_based => k_is)
    (case a_law_taken_later => k_is)
    (case l_law_taken_later => k_is)
    (case c_law_taken_later => k_is)
    (case k_law_taken_later => k_is)
    (case a_law => k_is)
    (case l_law => k_is)
    (case c_law => k_is)
    (case k_law => k_is)
    (case z_ValueError => k_is)
    (case z_all => k_is)
    (case z_int => k_is)
    (case z_isinstance => k_is)
    (case z_len => k_is)
    (case z_list => k_is)
    (case z_range => k_is)
    (case z_str => k_is)
    (case z_tuple => k_is)
    (case xa_Book => k_is)
    (case xn_Book => k_is)
    (case xt_Book => k_is)
    (case xm_Book => k_is)
    (case kv_InvalidRule => k_is)
    (case kv_UnknownTask => k_is)
    (case kv_SameTask => k_is)

