import PyProof.Rows.All
import Wide.All
import OpenK.AllK
import Wide.FinOn
import HandS.ForMost
import HandS.Wide
import HandS.ClsMeth
import HandS.Property
import HandS.More
import HandS.Conv
import HandS.Codes
import HandS.Style
import HandS.IsInst
import HandS.OwnEq
import HandS.MakeKwOnly
import HandS.Words
import HandS.ForExc
import HandS.ListItems
import HandS.SortOrd
import HandS.SortRule
import HandS.Defaults
import HandS.CallLocal
import HandS.WrittenGet
import PyProof.InstEq
import PyProof.NeKinds
import HandS.Ends
import HandS.Lambda
import PyProof.Rows.ReprR
import PyProof.Rows.RegFStrParts
import PyProof.CallFns
import HandS.List
import HandS.Deep
import KE.KExcSuper
import HandS.ExcInit
import HandS.ExcField
import HandS.Nested
import HandS.FStr
import HandS.ExcIs
import KE.KExcIs
import HandS.EndTab
import HandS.RaiseMore
import HandS.GenBody
import PyProof.ReprNest
import PyProof.ReprHeadsEmpty
import PyProof.StrHeap
import KE.GoesMore
import KE.KDictZip
import KE.KDictList
import HandS.Comp
import KE.KExcLine
import KE.KNestM
import PySem.Challenge.RW_devicewindows_k20_settings_refused_and_s
set_option Elab.async false
set_option linter.all false
set_option maxRecDepth 100000
set_option maxHeartbeats 4000000
/-! Rules of one's own: a class called by a local name, static methods, operators of own classes. -/
namespace Ow
open PySem PySem.Spec PyProof.Rows L2
/-- an own def called at some around -/
theorem run_own {X : Cx} {CX : CXT} {k : Nat} {f : Addr} {fd : FuncData} {ps : List Str} {sp : Sp} {E : XK} {A : Around} {pins : List (Addr × Obj)} {σ : L2.St} {H : Hp} {s : Shared} {Q : VK} {us : List Value} {vs : List V}
    (F : FnOk X.prog X.w X.K X.mg X.base CX k f fd ps sp) (hr : Room k A) (e0 : Env0 X.prog X.w X.K X.mg X.base A X.stack s H) (hb : Binds X.K fd ps []) (hx : Passes CX X E) (I : Inv X pins σ H s) (r : Vals vs us) (h : sp vs H Q E) :
    wpAny (model X.prog X.w) A (call (.ref f) us) (EP X pins σ Q) X.xe s := by
  have hl : us.length = ps.length := by rw [← r.length]; exact F.len _ _ _ _ h
  refine wpAny_call (codeAny_mono (F.run A X.stack s H ⟨us, []⟩ us vs Q E hr e0 (by
    have z := hb s us I.kIn (by simpa using hl)
    simpa using z) r h) fun q s' hq => ?_)
  cases q with
  | error e => exact hx pins σ H s e s' I hq
  | ok fl =>
    cases fl with
    | ret w => exact I.after hq
    | next => exact False.elim hq
    | brk => exact False.elim hq
    | cont => exact False.elim hq
section
variable {X : Cx} {CX : CXT} {k i : Nat} {f C p g : Addr} {mc : Value} {fd : FuncData} {ps : List Str} {sp : Sp} {dvs : List V} {ds : List Value} {E : XK} {x m : Str} {px pos apos : Pos} {o e : Expr} {es : List Expr} {ta : TE} {t : TA} {pl : Sem Bool}
/-- x(e, ..), the i-th slot holds the class at C -/
def tMakeL (i : Nat) (C : Addr) (sp : Sp) (dvs : List V) (E : XK) (t : TA) : TE := fun σ H Q => σ[i]? = some (some (.ref C)) ∧ tMake C sp dvs E t σ H Q
theorem pe_makeL (M : Mk X.K C f) (F : FnOk X.prog X.w X.K X.mg X.base CX k f fd ps sp) (hr : Room (k + 1) X.A) (hN : X.N[i]? = some x) (hv : Vis X.env.scope x) (hb : Binds X.K fd ps ds) (hd : Vals dvs ds) (hx : Passes CX X E)
    (ha : PA X (e :: es) t) (hdb : (x == ("__debug__" : Str)) = false := by decide) (hcd : (x == ("__classdict__" : Str)) = false := by decide) (he : starEach (e :: es) X.env = (false, eval e X.env) :: starEach es X.env := by rfl) (hpl : (backTo pos (starEach es X.env)).any (·.1) = false := by rfl) :
    PE X (.Call (.Name x px) (e :: es) [] pos) (tMakeL i C sp dvs E t) := by
  refine ⟨fun pins s σ H Q I h => ?_⟩
  obtain ⟨hs, ht⟩ := h
  refine wpAny_Call_Name_kw (thn ((pe_var (pos := px) hN hv hdb hcd).run pins s σ H (fun v H1 => v = .ref C ∧ H1 = H) I ⟨.ref C, hs, rfl, rfl⟩) fun u s1 ⟨v, H1, I1, r1, q1⟩ => ?_)
  obtain ⟨rfl, rfl⟩ := q1
  cases r1
  refine PySem.W.callWith_K (h₀ := X.base) I1.ok.mod.kin M.kp (thn (ha.run pos pins s1 σ _ _ I1 ht) fun us s2 ⟨vs, H2, I2, r, q⟩ => ⟨I2.kIn, ?_⟩) he hpl
  exact run_make M F hr hb hd hx I2 r q
/-- C.m is a static method: its record at p, its def at g -/
structure SMet (K : PySem.W.Frag) (C : Addr) (mc : Value) (m : Str) (p g : Addr) : Prop where
  at_ : PySem.W.findCls K (.ref C) mc m = some (.get (.builtin "staticmethod.__get__") (.ref p) .none (.ref C))
  rc : ∃ rest, PySem.W.recIn K p "staticmethod" = some (.ref g :: rest)
  kp : PySem.W.keepIn K (.ref g) = true
def tSMeth (C : Addr) (sp : Sp) (dvs : List V) (E : XK) (ta : TE) (t : TA) : TE := fun σ H Q => ta σ H fun x H1 => x = .ref C ∧ t σ H1 fun vs H2 => sp (vs ++ dvs) H2 Q E
theorem pe_smeth (he : PE X o ta) (r : ClX.CRead X.K C mc) (c : SMet X.K C mc m p g) (F : FnOk X.prog X.w X.K X.mg X.base CX k g fd ps sp) (hr : Room k X.A) (hb : Binds X.K fd ps ds) (hd : Vals dvs ds) (hx : Passes CX X E) (ha : PA X (e :: es) t)
    (hst : starEach (e :: es) X.env = (false, eval e X.env) :: starEach es X.env := by rfl) (hpl : (backTo pos (starEach es X.env)).any (·.1) = false := by rfl)
    (ht : eval (.Call (.Attribute o m apos) (e :: es) [] pos) X.env = (do
      let ov ← eval o X.env
      standAt apos.atName
      let (f, first) ← holding [ov] (getMethod ov m pl)
      callWith pos f first (backTo pos (starEach (e :: es) X.env)) (backToKw pos (keywordEach [] X.env))) := by rfl) :
    PE X (.Call (.Attribute o m apos) (e :: es) [] pos) (tSMeth C sp dvs E ta t) := by
  refine ⟨fun pins s σ H Q I h => ?_⟩
  refine PySem.W.methodCall_KW (pl := pl) (thn (he.run pins s σ H _ I h) fun u s1 ⟨x, H1, I1, rx, ex, q⟩ => ?_) ht
  subst ex
  obtain rfl : u = Value.ref C := rx
  obtain ⟨rest, hp⟩ := c.rc
  refine PySem.W.method_cls I1.kIn r.ga (PySem.W.cls_bind I1.kIn r.rd c.at_ (wpAny_call (PySem.W.sm_get (s := { s1 with toks := s1.toks + 1 }) I1.kIn hp (PySem.W.handed_on rfl ?_))))
  have I2 := I1.tok (s1.toks + 1)
  refine PySem.W.callWith_K (h₀ := X.base) I2.ok.mod.kin c.kp (thn (ha.run pos pins _ σ H1 _ I2 q) fun us s2 ⟨vs, H2, I3, r, q2⟩ => ⟨I3.kIn, ?_⟩) hst hpl
  exact run_fn F hr hb hd hx I3 r q2
end
/-! ### operators of an own class -/
section
variable {X : Cx} {CX : CXT} {k : Nat} {C f : Addr} {fd : FuncData} {ps : List Str} {sp : Sp} {E : XK}
/-- a op b, both instances of C, C has the method -/
def rBin (C : Addr) (sp : Sp) (E : XK) : R2 := fun x y H Q => ∃ a b dx dy fs gs, x = .ref a ∧ y = .ref b ∧ H a = some (.ins C dx fs) ∧ H b = some (.ins C dy gs) ∧ sp [.ref a, .ref b] H (fun v H' => (∀ c, v ≠ .ty c) ∧ Q v H') E
/-- len(o) -/
def rLenO (C : Addr) (sp : Sp) (E : XK) : List V → Hp → VK → Prop := fun xs H Q => ∃ a dx fs, xs = [.ref a] ∧ H a = some (.ins C dx fs) ∧ sp [.ref a] H (fun v H' => ∃ n : Int, v = .int n ∧ 0 ≤ n ∧ n < 2 ^ 63 ∧ Q (.int n) H') E
theorem call_lenO (F : FnOk X.prog X.w X.K X.mg X.base CX k f fd ps sp) (hr : Room (k + 1) X.A) (hs : PySem.W.findIn X.K (.ref C) "__len__" = some (some (.ref f))) (hf : PySem.W.isFn X.K (.ref f) = true) (hb : Binds X.K fd ps []) (hx : Passes CX X E) :
    CallR X (.builtin "len") (rLenO C sp E) := by
  intro pins s σ H xs us Q I r h
  obtain ⟨a, dx, fs, rfl, ha, q⟩ := h
  obtain ⟨u, rfl, ru⟩ := vals1 r
  obtain rfl : u = Value.ref a := ru
  obtain ⟨mA, J, _⟩ := ins_get I.hok ha
  obtain ⟨od, J, _⟩ := J.look
  obtain ⟨m, hF⟩ := I.fr
  refine PySem.W.len_K hF I.ok.mod.kin J hs hf (wpAny_mono (run_own F hr.in1 I.env0.in1 hb hx I (vs := [.ref a]) (.cons (show RelV (.ref a) (.ref a) from rfl) .nil) q) (fun v s' hq => ?_) fun _ _ z => z)
  obtain ⟨w, H', I', rw', n, rfl, n0, n1, q'⟩ := hq
  obtain ⟨t, rfl⟩ := rw'
  exact ⟨⟨n0, n1⟩, .int n, H', I'.tok _, ⟨_, rfl⟩, q'⟩
/-- x in o -/
def rInO (C : Addr) (sp : Sp) (E : XK) : R2 := fun x y H Q => ∃ a dx fs, y = .ref a ∧ H a = some (.ins C dx fs) ∧ sp [.ref a, x] H (fun v H' => ∃ b, v = .bl b ∧ Q (.bl b) H') E
theorem op_inO (F : FnOk X.prog X.w X.K X.mg X.base CX k f fd ps sp) (hr : Room k X.A) (hs : PySem.W.findIn X.K (.ref C) "__contains__" = some (some (.ref f))) (hf : PySem.W.isFn X.K (.ref f) = true) (hb : Binds X.K fd ps []) (hx : Passes CX X E) :
    OpR X (compareOp .In) (rInO C sp E) := by
  intro pins s σ H x y v u Q I rx ry h
  obtain ⟨a, dx, fs, rfl, ha, q⟩ := h
  obtain rfl : u = Value.ref a := ry
  obtain ⟨mA, J, _⟩ := ins_get I.hok ha
  obtain ⟨od, J, _⟩ := J.look
  obtain ⟨m, hF⟩ := I.fr
  refine PySem.W.in_K hF I.ok.mod.kin J hs hf (wpAny_mono (run_own F hr I.env0 hb hx I (vs := [.ref a, x]) (.cons (show RelV (.ref a) (.ref a) from rfl) (.cons rx .nil)) q) (fun v s' hq => ?_) fun _ _ z => z)
  obtain ⟨w, H', I', rw', b, rfl, q'⟩ := hq
  cases rw'
  exact wpAny_truthy_bool ⟨.bl b, H', I', rfl, q'⟩
/-- a op b of two instances of C by C's own method -/
theorem op_bin {op : Operator} (F : FnOk X.prog X.w X.K X.mg X.base CX k f fd ps sp) (hr : Room k X.A) (hc : PySem.W.selfFirst X.K C = true) (hs : PySem.W.findIn X.K (.ref C) (PySem.dunder op.info.2) = some (some (.ref f))) (hf : PySem.W.isFn X.K (.ref f) = true) (hb : Binds X.K fd ps []) (hx : Passes CX X E) :
    OpR X (binaryOp op) (rBin C sp E) := by
  intro pins s σ H x y v u Q I rx ry h
  obtain ⟨a, b, dx, dy, fs, gs, rfl, rfl, ha, hb', q⟩ := h
  obtain rfl : v = Value.ref a := rx
  obtain rfl : u = Value.ref b := ry
  obtain ⟨mA, J, _⟩ := ins_get I.hok ha
  obtain ⟨mB, J', _⟩ := ins_get I.hok hb'
  obtain ⟨od, J, _⟩ := J.look
  obtain ⟨od', J', _⟩ := J'.look
  obtain ⟨m, hF⟩ := I.fr
  refine PySem.W.binop_K hF I.ok.mod.kin J J'.type hc hs hf (wpAny_mono (run_own F hr I.env0 hb hx I (vs := [.ref a, .ref b]) (.cons (show RelV (.ref a) (.ref a) from rfl) (.cons (show RelV (.ref b) (.ref b) from rfl) .nil)) q) (fun w s' hq => ?_) fun _ _ z => z)
  obtain ⟨z, H', I', rw', nt, q'⟩ := hq
  cases z with
  | ty c => exact absurd rfl (nt c)
  | non => cases rw'; exact ⟨.non, H', I', rfl, q'⟩
  | bl c => cases rw'; exact ⟨.bl c, H', I', rfl, q'⟩
  | int n => obtain ⟨t, rfl⟩ := rw'; exact ⟨.int n, H', I', ⟨t, rfl⟩, q'⟩
  | str n => obtain ⟨t, rfl⟩ := rw'; exact ⟨.str n, H', I', ⟨t, rfl⟩, q'⟩
  | byt n => obtain ⟨t, rfl⟩ := rw'; exact ⟨.byt n, H', I', ⟨t, rfl⟩, q'⟩
  | flt n => obtain ⟨t, rfl⟩ := rw'; exact ⟨.flt n, H', I', ⟨t, rfl⟩, q'⟩
  | ref c => cases rw'; exact ⟨.ref c, H', I', rfl, q'⟩
/-- a == y, a an instance of C with its own __eq__, y of a type that does not go first -/
def rEqO (K : PySem.W.Frag) (C : Addr) (sp : Sp) (E : XK) : R2 := fun x y H Q => ∃ a dx fs t, x = .ref a ∧ H a = some (.ins C dx fs) ∧ TyX K H y t ∧ PySem.W.notFirst K C t = true ∧ sp [.ref a, y] H (fun v H' => ∃ b, v = .bl b ∧ Q (.bl b) H') E
theorem op_eqO (F : FnOk X.prog X.w X.K X.mg X.base CX k f fd ps sp) (hr : Room k X.A) (hs : PySem.W.findIn X.K (.ref C) "__eq__" = some (some (.ref f))) (hf : PySem.W.isFn X.K (.ref f) = true) (hb : Binds X.K fd ps []) (hx : Passes CX X E) :
    OpR X (compareOp .Eq) (rEqO X.K C sp E) := by
  intro pins s σ H x y v u Q I rx ry h
  obtain ⟨a, dx, fs, t, rfl, ha, ty, hn, q⟩ := h
  obtain rfl : v = Value.ref a := rx
  obtain ⟨mA, J, _⟩ := ins_get I.hok ha
  obtain ⟨od, J, _⟩ := J.look
  obtain ⟨m, hF⟩ := I.fr
  obtain ⟨P, kx, hP, _⟩ := kit_of I ry ty
  show wpAny _ _ (richCompare .Eq (.ref a) u) _ _ _
  refine PySem.W.cmp_K (op := .Eq) (tb := t) hr.units0 hF I.ok.mod.kin J (kx.ty _ _ I.kIn hP) hn hs hf (wpAny_mono (run_own F hr I.env0 hb hx I (vs := [.ref a, y]) (.cons (show RelV (.ref a) (.ref a) from rfl) (.cons ry .nil)) q) (fun w s' hq => ?_) fun _ _ z => z)
  obtain ⟨z, H', I', rw', b, rfl, q'⟩ := hq
  cases rw'
  exact ⟨.bl b, H', I', rfl, q'⟩
end
end Ow
/-! Class methods and classes called by keywords alone; defs without defaults. -/
namespace Kc
open PySem PySem.Spec PyProof.Rows L2
section
variable {K : PySem.W.Frag} {x qual : Str} {st : Stmt} {f : Addr} {fd : FuncData}
/-- one value by its place, two by their names, the later one first -/
theorem kbn_swap {p0 p1 p2 : Str} (F : Fun K x qual st f fd)
    (h : ∀ (kV doc pm : Value) (an : Option Addr) (cdv ct : Value) (u a b : Value), bindArgs (PySem.W.fnOf x qual (defArgs st) (defBody st) (defScope st) .none kV doc pm an cdv ct) ⟨[u], [(p2, a), (p1, b)]⟩ = pure ([p0, p1, p2].zip [u, b, a])) :
    KBn K fd [p0, p1, p2] 1 [p2, p1] (fun us ws => us ++ ws.reverse) (fun vs zs => vs ++ zs.reverse) := by
  obtain ⟨oc, od, kV, doc, pm, an, cdv, ct, osl, rfl, _, _⟩ := F.ex
  refine ⟨fun s us ws _ l1 l2 => ?_, fun r1 r2 => r1.append r2.reverse⟩
  obtain ⟨u, rfl⟩ : ∃ u, us = [u] := List.length_eq_one_iff.mp l1
  obtain ⟨a, b, rfl⟩ : ∃ a b, ws = [a, b] := match ws, l2 with
    | [a, b], _ => ⟨a, b, rfl⟩
  exact .of_eq (h kV doc pm an cdv ct u a b)
end
/-- o.m(k = v, ..), o the class at C, m a classmethod -/
def tCMethK (C : Addr) (n : Nat) (sp : Sp) (gV : List V → List V → List V) (E : XK) (ta : TE) (tk : TA) : TE := fun σ H Q => ta σ H fun x H1 => x = .ref C ∧ tk σ H1 fun zs H2 => zs.length = n ∧ sp (gV [.ref C] zs) H2 Q E
section
variable {X : Cx} {CX : CXT} {k : Nat} {C p g : Addr} {mc : Value} {fd : FuncData} {ps ks : List Str} {sp : Sp} {E : XK} {o : Expr} {kws : List Keyword} {m : Str} {pos apos : Pos} {ta : TE} {tk : TA} {pl : Sem Bool} {gg : List Value → List Value → List Value} {gV : List V → List V → List V}
theorem pe_cmethK0 (he : PE X o ta) (r : ClX.CRead X.K C mc) (c : ClX.CMet X.K C mc m p g) (F : FnOk X.prog X.w X.K X.mg X.base CX k g fd ps sp) (hb : KBn X.K fd ps 1 ks gg gV) (hr : Room k X.A) (hx : Passes CX X E) (hkw : PK X kws tk)
    (hall : (backToKw pos (keywordEach kws X.env)).all (·.1.isSome) = true := by rfl) (hks : (backToKw pos (keywordEach kws X.env)).filterMap (·.1) = ks := by rfl)
    (hpl : ((backTo pos (starEach [] X.env)).any (·.1) || (backToKw pos (keywordEach kws X.env)).any (·.1.isNone)) = false := by rfl)
    (ht : eval (.Call (.Attribute o m apos) [] kws pos) X.env = (do
      let v ← eval o X.env
      standAt apos.atName
      let (fv, fst) ← holding [v] (getMethod v m pl)
      callWith pos fv fst (backTo pos (starEach [] X.env)) (backToKw pos (keywordEach kws X.env))) := by rfl) :
    PE X (.Call (.Attribute o m apos) [] kws pos) (tCMethK C ks.length sp gV E ta tk) := by
  refine ⟨fun pins s σ H Q I h => ?_⟩
  refine PySem.W.methodCall_KW (pl := pl) (thn (he.run pins s σ H _ I h) fun u s1 hh => ?_) ht
  obtain ⟨x, H1, I1, rx, ex, q⟩ := hh
  subst ex
  cases rx
  refine ClX.getmethcm_ok I1 r c fun s2 I2 => ?_
  refine PySem.W.callWith_of (first := []) hpl (PySem.W.keeps_M (K := X.K) (self := .ref C) c.fi) (evalArgs_kw2_nil hall (thn (hkw.run pos _ s2 σ H1 _ I2 q) fun ws s3 hh2 => ?_))
  obtain ⟨zs, H2, I3, rz, l2, q2⟩ := hh2
  refine ⟨⟨ClX.pin_at I3, I3.kIn⟩, ?_⟩
  rw [hks]
  have r2 : Vals (gV [.ref C] zs) (gg [.ref C] ws) := hb.rel (.cons rfl .nil) rz
  have z : wpAny (model X.prog X.w) X.A (call (.ref s1.heap.objs.size) [] (ks.zip ws)) (EP X ((s1.heap.objs.size, PySem.W.methodObj (.ref g) (.ref C)) :: pins) σ Q) X.xe s3 := by
    refine wpAny_call (PySem.W.method_call (ClX.pin_at I3) (codeAny_mono (F.run X.A X.stack s3 H2 ⟨[.ref C], ks.zip ws⟩ (gg [.ref C] ws) (gV [.ref C] zs) Q E hr I3.env0 (hb.to s3 [.ref C] ws I3.kIn rfl (rz.length.symm.trans l2)) r2 q2) fun r s' hq => ?_))
    cases r with
    | error e => exact hx _ σ H2 s3 e s' I3 hq
    | ok fl =>
      cases fl with
      | ret w => exact I3.after hq
      | next => exact False.elim hq
      | brk => exact False.elim hq
      | cont => exact False.elim hq
  exact thn z fun _ _ y => ClX.unpinE y
end
end Kc
namespace Sc
open PySem L2
def top (i : Nat) : Stmt := PySem.Challenge.pw_devicewindows_k20_settings_refused_and_s.main.body.getD i (.Pass ⟨0, 0, 0, 0⟩)
abbrev s_BadSetting___init__ : Stmt := inClass (top 2) 0
abbrev s_BadEvent___init__ : Stmt := inClass (top 3) 0
abbrev s_integer : Stmt := top 5
abbrev s_whole : Stmt := top 6
abbrev s_Book___init__ : Stmt := inClass (top 12) 0
abbrev s_Book___eq__ : Stmt := inClass (top 12) 1
abbrev s_Book___repr__ : Stmt := inClass (top 12) 2
abbrev s_Setting___init__ : Stmt := inClass (top 13) 0
abbrev s_Setting_safe : Stmt := inClass (top 13) 1
abbrev s_Setting___eq__ : Stmt := inClass (top 13) 2
abbrev s_Setting___repr__ : Stmt := inClass (top 13) 3
abbrev s__same_book : Stmt := top 14
abbrev s__are_directions : Stmt := top 15
abbrev s__check : Stmt := top 16
abbrev s__told : Stmt := top 17
abbrev s__law_bag : Stmt := top 19
abbrev s__law_take : Stmt := top 20
abbrev s__law_of : Stmt := top 21
abbrev s__law_ways : Stmt := top 22
abbrev s__law_odd : Stmt := top 23
abbrev s__law_odd_duty : Stmt := top 24
abbrev s__law_right : Stmt := top 25
abbrev s__law_setting : Stmt := top 26
abbrev s__law_book : Stmt := top 27
abbrev s__law_field : Stmt := top 28
abbrev s__law_words : Stmt := top 29
abbrev s_law : Stmt := top 30
end Sc
/-! Two rules of one's own: storing to a slice of a list; sorting the items of a dict with int keys and bool values. -/
namespace Ln
open PySem PySem.Spec PyProof.Rows L2
/-! ### xs[a:c] = ys -/
/-- the target's reading: the list at l, its bounds, the other list at b -/
def gSlice (to tl th : TE) : TG := fun v σ H Q => to σ H fun x H1 => tl σ H1 fun y H2 => th σ H2 fun z H3 =>
  ∃ (l b : Addr) (xs ys : List V) (a c : Int), x = .ref l ∧ v = .ref b ∧ y = .int a ∧ z = .int c ∧ H3 l = some (.lst xs) ∧ H3 b = some (.lst ys) ∧ l ≠ b ∧ 0 ≤ a ∧ a ≤ c ∧ c ≤ xs.length ∧ xs.length + ys.length ≤ sizeLine ∧
    Q σ (upd H3 l (.lst (xs.take a.toNat ++ ys ++ xs.drop c.toNat)))
section
variable {X : Cx} {pos : Pos}
theorem pg_slice {o lo hi : Expr} {p2 : Pos} {to tl th : TE} (ho : PE X o to) (hl : PE X lo tl) (hh : PE X hi th)
    (ha : ∀ v, assign (.Subscript o (.Slice (some lo) (some hi) none p2) pos) X.env v = (do
      let ov ← holding [v] (eval o X.env)
      let iv ← holding [v, ov] (eval (.Slice (some lo) (some hi) none p2) X.env)
      standAt pos
      holding [v, ov, iv] (setItem ov iv v)
      release [iv, v, ov] []) := by intro _; rfl) : PG X (.Subscript o (.Slice (some lo) (some hi) none p2) pos) (gSlice to tl th) := by
  refine ⟨fun pins s σ H v u Q I r h => ?_⟩
  rw [ha]
  refine wpAny_bind (wpAny_holding (thn (ho.run pins s σ H _ I h) fun ov s1 ⟨x, H1, I1, r1, q1⟩ => ?_))
  refine wpAny_bind (wpAny_holding (wpAny_Slice ?_))
  rw [evalPart_some, evalPart_some]
  refine thn (hl.run pins s1 σ H1 _ I1 q1) fun vl s2 ⟨y, H2, I2, r2, q2⟩ => ?_
  refine thn (hh.run pins s2 σ H2 _ I2 q2) fun vu s3 ⟨z, H3, I3, r3, q3⟩ => ?_
  rw [evalPart_none]
  refine wpAny_pure ?_
  obtain ⟨l, b, xs, ys, a, c, rfl, rfl, rfl, rfl, e1, e2, ne, h0, hac, hc, hz, q⟩ := q3
  obtain rfl : ov = Value.ref l := r1
  obtain rfl : u = Value.ref b := r
  have I4 : Inv X pins σ H3 { s3 with heap := s3.heap.push { cls := .type "slice", data := .fields #[vl, vu, .none] } } := I3.kept (t' := s3.toks) fun b ob q => Heap.get?_push_of_some _ q
  refine wpAny_bind (wpAny_standAt (wpAny_bind (wpAny_holding (set_slice I4 e1 e2 ne (Heap.IsSliceOf.new ..) r2 r3 h0 hac hc hz fun s' I' => ?_))))
  exact wpAny_release ⟨σ, _, I', q⟩
end
/-! ### sorted(d.items()): int keys, bool values -/
abbrev ltK (k : Value → Int) (v u : Value) : Bool := decide (k v < k u)
theorem swo_K (k : Value → Int) : SrtO.Swo (ltK k) := by
  refine ⟨fun x y h => ?_, fun x y z h1 h2 => ?_⟩
  · have a : k x < k y := of_decide_eq_true h
    exact decide_eq_false (by omega)
  · have a : ¬ k y < k x := of_decide_eq_false h1
    have b : ¬ k z < k y := of_decide_eq_false h2
    exact decide_eq_false (by omega)
end Ln
/-! A parameter with a default, written by its name. -/
namespace Kd
open PySem PySem.Spec PyProof.Rows L2
section
variable {K : PySem.W.Frag} {x qual : Str} {params : Arguments} {body : List Stmt} {scope : Scope} {dvs : List V} {kws : List (Str × V)} {f : Addr} {fd : FuncData} {ps : List Str}
/-- all parameters are written: n by their places, the rest by their names in their order; the defaults are read and left -/
theorem kbn_app (F : FunD K x qual params body scope dvs kws f fd) (n : Nat) (ks : List Str) (hd : dvs ≠ [])
    (h : ∀ (T : Addr) (kV doc pm : Value) (an : Option Addr) (cdv ct : Value) (us its ws : List Value), us.length = n → its.length = dvs.length → ws.length = ks.length →
      ∃ k, bindArgs (PySem.W.fnOf x qual params body scope (.ref T) kV doc pm an cdv ct) ⟨us, ks.zip ws⟩ = seqItems? (.ref T) >>= k ∧ k (some its.toArray) = pure (ps.zip (us ++ ws))) :
    KBn K fd ps n ks (fun us ws => us ++ ws) (fun vs zs => vs ++ zs) := by
  obtain ⟨oc, od, dV, kV, doc, pm, an, cdv, ct, osl, rfl, lk, hcd, hD, hK⟩ := F.ex
  rcases hD with ⟨e, _⟩ | ⟨_, T, o, its, m, rfl, lT, oT, rT⟩
  · exact absurd e hd
  · refine ⟨fun s us ws X l1 l2 => ?_, fun r1 r2 => r1.append r2⟩
    obtain ⟨k, e1, e2⟩ := h T kV doc pm an cdv ct us its ws l1 rT.length.symm l2
    refine BindsTo.of_looks fun M => ?_
    rw [e1]
    exact looks_items X lT oT (.of_pure e2)
end
end Kd
/-! integer and whole, for a program without the class Run. -/
namespace Sc
open PySem L2
structure Def (K : PySem.W.Frag) (mg : Str → Option Value) (x : Str) (f : Addr) (fd : FuncData) (ps : List Str) : Prop where
  at_ : mg x = some (.ref f)
  kp : PySem.W.keepIn K (.ref f) = true
  bd : Binds K fd ps []
theorem put_same {H : Hp} {p : Addr} {o : HO} (h : H p = none) : Same H (upd H p o) := fun b u e => by rw [upd_ne (ne_of_none e h)]; exact e
theorem eqv_self {d : PyData} (h : SeqAt.shaped d = true) : PyData.eqv d d = true := SeqAt.eqv_refl _ (SeqAt.canLay_of_shaped h)
theorem paired_snoc {α β : Type} {F : α → β → Prop} {x : α} {y : β} (r : F x y) : ∀ {xs : List α} {ys : List β}, Paired F xs ys → Paired F (xs ++ [x]) (ys ++ [y])
  | _, _, .nil => .cons r .nil
  | _, _, .cons a t => .cons a (paired_snoc r t)
theorem paired_len {α β : Type} {F : α → β → Prop} : ∀ {xs : List α} {ys : List β}, Paired F xs ys → xs.length = ys.length
  | _, _, .nil => rfl
  | _, _, .cons _ t => by rw [List.length_cons, List.length_cons, paired_len t]
theorem paired_ith {α β : Type} {F : α → β → Prop} : ∀ {xs : List α} {ys : List β}, Paired F xs ys → ∀ {i : Nat} {x : α} {y : β}, xs[i]? = some x → ys[i]? = some y → F x y
  | _, _, .nil, i, x, y, h, _ => by simp at h
  | _, _, .cons r t, 0, x, y, h, k => by
    have e := Option.some.inj h
    have e2 := Option.some.inj k
    subst e; subst e2
    exact r
  | _, _, .cons r t, i + 1, x, y, h, k => paired_ith t (i := i) h k
structure IsR (K : PySem.W.Frag) (C : Addr) : Prop where
  ha : PySem.W.findIn K (.ref C) "__class__" = some (some (.builtin "object.__class__"))
  hn : PySem.W.specialIn K (.builtin "object.__class__") "__get__" = some (some (.builtin "getset_descriptor.__get__"))
  htk : PySem.W.takesIn K (.builtin "object.__class__") = some true
  hm : PySem.W.mroIn K C (.type "object") = some true
  ki : PySem.W.kitOne K (.ref C) (.type "int") = some false
theorem kit_self {K : PySem.W.Frag} {C : Addr} : PySem.W.kitOne K (.ref C) (.ref C) = some true := by
  unfold PySem.W.kitOne
  rw [if_pos (by simp)]
structure NB (mg : Str → Option Value) : Prop where
  isi : mg "isinstance" = none
  int : mg "int" = none
  bool : mg "bool" = none
  tuple : mg "tuple" = none
def spInteger (K : PySem.W.Frag) : Sp := fun vs H Q _ => ∃ x : V, vs = [x] ∧ ((∃ v, x = .int v ∧ Q (.bl true) H) ∨ (∃ b, x = .bl b ∧ Q (.bl false) H) ∨ ∃ t, TyX K H x t ∧ PySem.W.kitOne K t (.type "int") = some false ∧ Q (.bl false) H)
def spWhole (K : PySem.W.Frag) : Sp := fun vs H Q _ => ∃ (x : V) (lo hi : Int), vs = [x, .int lo, .int hi] ∧
  ((∃ v, x = .int v ∧ Q (.bl (decide (lo ≤ v ∧ v ≤ hi))) H) ∨ (∃ b, x = .bl b ∧ Q (.bl false) H) ∨ ∃ t, TyX K H x t ∧ PySem.W.kitOne K t (.type "int") = some false ∧ Q (.bl false) H)
section
variable {P : Program} {w : World} {K : PySem.W.Frag} {mg : Str → Option Value} {base : Heap}
theorem scInteger : FnScope ["value"] ["value"] (defScope s_integer) := ⟨rfl, rfl, rfl, by decide +kernel, rfl, by decide +kernel, by decide +kernel⟩
theorem ok_integer {f : Addr} {fd : FuncData} (F : Fun K "integer" "integer" s_integer f fd) (T : NB mg) : FnOk P w K mg base CX0 1 f fd ["value"] (spInteger K) := by
  refine F.ok scInteger (fun vs H Q E h => ?_) (fun cdv A outer s H vs Q E hr h => ?_)
  · obtain ⟨x, rfl, _⟩ := h
    rfl
  · obtain ⟨x, rfl, h⟩ := h
    refine ⟨_, pss_one (ps_ret (pe_and (pe_callB call_isi (by rfl) T.isi (by decide +kernel) (pa_cons (pv 0) (pa_cons (pe_bltn (v := .ty "int") (by rfl) T.int (by decide +kernel) rfl) pa_nil)))
      (pe_one (pe_not (pe_callB call_isi (by rfl) T.isi (by decide +kernel) (pa_cons (pv 0) (pa_cons (pe_bltn (v := .ty "bool") (by rfl) T.bool (by decide +kernel) rfl) pa_nil))))))), ?_⟩
    rcases h with ⟨v, rfl, q⟩ | ⟨b, rfl, q⟩ | ⟨t, ty, hk, q⟩
    · refine ⟨_, rfl, _, _, .type "int", .type "int", true, rfl, .ty "int", .base (.int v), kit_ty (by decide +kernel), true, rfl, iteT ?_⟩
      exact ⟨_, rfl, _, _, .type "int", .type "bool", false, rfl, .ty "bool", .base (.int v), kit_ty (by decide +kernel), false, rfl, q⟩
    · refine ⟨_, rfl, _, _, .type "bool", .type "int", true, rfl, .ty "int", .base (.bl b), kit_ty (by decide +kernel), true, rfl, iteT ?_⟩
      exact ⟨_, rfl, _, _, .type "bool", .type "bool", true, rfl, .ty "bool", .base (.bl b), kit_ty (by decide +kernel), true, rfl, q⟩
    · exact ⟨_, rfl, _, _, t, .type "int", false, rfl, .ty "int", ty, hk, false, rfl, iteF q⟩
theorem scWhole : FnScope ["value", "least", "most"] ["value", "least", "most"] (defScope s_whole) := ⟨rfl, rfl, rfl, by decide +kernel, rfl, by decide +kernel, by decide +kernel⟩
theorem ok_whole {f fN : Addr} {fd fdN : FuncData} (F : Fun K "whole" "whole" s_whole f fd) (GN : FnOk P w K mg base CX0 1 fN fdN ["value"] (spInteger K)) (DN : Def K mg "integer" fN fdN ["value"]) : FnOk P w K mg base CX0 2 f fd ["value", "least", "most"] (spWhole K) := by
  refine F.ok scWhole (fun vs H Q E h => ?_) (fun cdv A outer s H vs Q E hr h => ?_)
  · obtain ⟨x, lo, hi, rfl, _⟩ := h
    rfl
  · obtain ⟨x, lo, hi, rfl, h⟩ := h
    refine ⟨_, pss_one (ps_ret (pe_and (pe_call GN hr (by rfl) DN.at_ DN.kp DN.bd .nil pass0 (pa_cons (pv 0) pa_nil)) (pe_one (pe_chain op_le op_le (pv 1) (pv 0) (pv 2))))), ?_⟩
    refine ⟨_, rfl, x, rfl, ?_⟩
    rcases h with ⟨v, rfl, q⟩ | ⟨b, rfl, q⟩ | ⟨t, ty, hk, q⟩
    · refine .inl ⟨v, rfl, true, rfl, iteT ?_⟩
      refine ⟨_, rfl, _, rfl, _, _, rfl, rfl, _, rfl, ite2 (fun h1 => ?_) fun h1 => ?_⟩
      · refine ⟨_, rfl, _, _, rfl, rfl, ?_⟩
        have h1' : lo ≤ v := of_decide_eq_true h1
        have e : decide (lo ≤ v ∧ v ≤ hi) = decide (v ≤ hi) := by
          by_cases z : v ≤ hi <;> simp [z, h1']
        rw [e] at q
        exact q
      · have h1' : ¬ lo ≤ v := of_decide_eq_false (by simpa using h1)
        have e : decide (lo ≤ v ∧ v ≤ hi) = false := decide_eq_false fun z => h1' z.1
        rw [e] at q
        exact q
    · exact .inr (.inl ⟨b, rfl, false, rfl, iteF q⟩)
    · exact .inr (.inr ⟨t, ty, hk, false, rfl, iteF q⟩)
end
end Sc
/-! Books and settings as they lie in the heap; _are_directions, _check. -/
namespace Sc
open PySem L2
/-- the directions of a mask below 8 -/
def ways (m : Nat) : List Str := (if m % 2 = 1 then ([("to" : Str)] : List Str) else []) ++ (if m / 2 % 2 = 1 then [("from" : Str)] else []) ++ (if m / 4 % 2 = 1 then [("both" : Str)] else [])
abbrev wv (m : Nat) : List V := (ways m).map V.str
abbrev B5 : Type := Nat × Nat × Nat × Nat × Nat
def ok5 (v : B5) : Prop := v.1 < 8 ∧ v.2.1 < 8 ∧ v.2.2.1 < 8 ∧ v.2.2.2.1 < 8 ∧ v.2.2.2.2 < 8
abbrev std5 : B5 := (7, 6, 7, 7, 6)
theorem ok_std : ok5 std5 := ⟨by decide, by decide, by decide, by decide, by decide⟩
def bkf (t1 t2 t3 t4 t5 : Addr) : List (Str × V) := putF "take_copied" (.ref t5) (putF "give_copied" (.ref t4) (putF "bind_copied" (.ref t3) (putF "dropped" (.ref t2) (putF "cleaned" (.ref t1) []))))
theorem bn1 : ¬ (("cleaned" : Str) = "dropped") := by decide +kernel
theorem bn2 : ¬ (("cleaned" : Str) = "bind_copied") := by decide +kernel
theorem bn3 : ¬ (("cleaned" : Str) = "give_copied") := by decide +kernel
theorem bn4 : ¬ (("cleaned" : Str) = "take_copied") := by decide +kernel
theorem bn5 : ¬ (("dropped" : Str) = "bind_copied") := by decide +kernel
theorem bn6 : ¬ (("dropped" : Str) = "give_copied") := by decide +kernel
theorem bn7 : ¬ (("dropped" : Str) = "take_copied") := by decide +kernel
theorem bn8 : ¬ (("bind_copied" : Str) = "give_copied") := by decide +kernel
theorem bn9 : ¬ (("bind_copied" : Str) = "take_copied") := by decide +kernel
theorem bn10 : ¬ (("give_copied" : Str) = "take_copied") := by decide +kernel
section
variable (t1 t2 t3 t4 t5 : Addr)
theorem bk1 : (bkf t1 t2 t3 t4 t5).lookup ("cleaned" : Str) = some (.ref t1) := by
  unfold bkf
  rw [lookup_putF, if_neg bn4, lookup_putF, if_neg bn3, lookup_putF, if_neg bn2, lookup_putF, if_neg bn1, lookup_putF, if_pos rfl]
theorem bk2 : (bkf t1 t2 t3 t4 t5).lookup ("dropped" : Str) = some (.ref t2) := by
  unfold bkf
  rw [lookup_putF, if_neg bn7, lookup_putF, if_neg bn6, lookup_putF, if_neg bn5, lookup_putF, if_pos rfl]
theorem bk3 : (bkf t1 t2 t3 t4 t5).lookup ("bind_copied" : Str) = some (.ref t3) := by
  unfold bkf
  rw [lookup_putF, if_neg bn9, lookup_putF, if_neg bn8, lookup_putF, if_pos rfl]
theorem bk4 : (bkf t1 t2 t3 t4 t5).lookup ("give_copied" : Str) = some (.ref t4) := by
  unfold bkf
  rw [lookup_putF, if_neg bn10, lookup_putF, if_pos rfl]
theorem bk5 : (bkf t1 t2 t3 t4 t5).lookup ("take_copied" : Str) = some (.ref t5) := by
  unfold bkf
  rw [lookup_putF, if_pos rfl]
end
def BookAt (K : PySem.W.Frag) (CB : Addr) (H : Hp) (b : Addr) (v : B5) : Prop := ∃ dx t1 t2 t3 t4 t5, H b = some (.ins CB dx (bkf t1 t2 t3 t4 t5)) ∧ ok5 v ∧ SqT K H t1 (wv v.1) ∧ SqT K H t2 (wv v.2.1) ∧ SqT K H t3 (wv v.2.2.1) ∧ SqT K H t4 (wv v.2.2.2.1) ∧ SqT K H t5 (wv v.2.2.2.2)
theorem sqT_same {K : PySem.W.Frag} {H H' : Hp} {a : Addr} {xs : List V} (h : SqT K H a xs) (e : Same H H') : SqT K H' a xs := by
  rcases h with (h | ⟨o, h⟩) | h
  · exact .inl (.inl (e _ _ h))
  · exact .inl (.inr ⟨o, e _ _ h⟩)
  · exact .inr h
theorem BookAt.same {K : PySem.W.Frag} {CB : Addr} {H H' : Hp} {b : Addr} {v : B5} (h : BookAt K CB H b v) (e : Same H H') : BookAt K CB H' b v := by
  obtain ⟨dx, t1, t2, t3, t4, t5, h0, hv, h1, h2, h3, h4, h5⟩ := h
  exact ⟨dx, t1, t2, t3, t4, t5, e _ _ h0, hv, sqT_same h1 e, sqT_same h2 e, sqT_same h3 e, sqT_same h4 e, sqT_same h5 e⟩
theorem tyT {K : PySem.W.Frag} {H : Hp} {a : Addr} {xs : List V} (h : SqT K H a xs) : TyX K H (.ref a) (.type "tuple") := by
  rcases h with (h | ⟨o, h⟩) | ⟨o, its, n, h1, h2, _⟩
  · exact .base (.tup h)
  · exact .fTuple h
  · exact .kTuple h1 h2
/-- the module's tuples -/
structure DirAt (K : PySem.W.Frag) (mg : Str → Option Value) (dT wT cT pT : Addr) : Prop where
  dir : mg "DIRECTIONS" = some (.ref dT)
  dirs : ∀ H, SqT K H dT (wv 7)
  wri : mg "WRITING" = some (.ref wT)
  wris : ∀ H, SqT K H wT (wv 6)
  cop : mg "_COPIES" = some (.ref cT)
  cops : ∀ H, SqT K H cT [.str "none", .str "ends", .str "all"]
  pol : mg "POLICIES" = some (.ref pT)
  pols : ∀ H, SqT K H pT [.str "first", .str "best", .str "worst", .str "next", .str "halves"]
theorem ways_filter {m : Nat} (h : m < 8) : (wv 7).filter (fun x => inV x (wv m)) = wv m := by
  have : m = 0 ∨ m = 1 ∨ m = 2 ∨ m = 3 ∨ m = 4 ∨ m = 5 ∨ m = 6 ∨ m = 7 := by omega
  rcases this with rfl | rfl | rfl | rfl | rfl | rfl | rfl | rfl <;> decide +kernel
theorem ways_flat (m : Nat) : (wv m).all flatV = true := by
  rw [List.all_map]
  exact List.all_eq_true.mpr fun x _ => rfl
theorem ways_len (m : Nat) : (ways m).length ≤ 3 := by
  unfold ways
  split <;> split <;> split <;> simp
/-- tuples of texts as data -/
def dW (m : Nat) : PyData := .tuple ((ways m).map .str)
theorem dpall_str {K : PySem.W.Frag} {H : Hp} : ∀ xs : List Str, DpAll K H (xs.map V.str) (xs.map PyData.str)
  | [] => .nil
  | x :: r => .cons (.str x) (dpall_str r)
theorem dp_w {K : PySem.W.Frag} {H : Hp} {a : Addr} {m : Nat} (h : SqT K H a (wv m)) : Dp K H (.ref a) (dW m) := .tup h (dpall_str _)
theorem lay_w (m : Nat) : PyData.canLay0 (dW m) = true := by
  unfold dW ways
  split <;> split <;> split <;> decide +kernel
theorem depth_w (m : Nat) : PyData.depth (dW m) = 1 := by
  unfold dW ways
  split <;> split <;> split <;> decide +kernel
theorem shaped_w (m : Nat) : SeqAt.shaped (dW m) = true := by
  unfold SeqAt.shaped
  rw [lay_w, depth_w]
  rfl
theorem eqv_w {m n : Nat} (hm : m < 8) (hn : n < 8) : PyData.eqv (dW m) (dW n) = decide (m = n) := by
  have a : m = 0 ∨ m = 1 ∨ m = 2 ∨ m = 3 ∨ m = 4 ∨ m = 5 ∨ m = 6 ∨ m = 7 := by omega
  have b : n = 0 ∨ n = 1 ∨ n = 2 ∨ n = 3 ∨ n = 4 ∨ n = 5 ∨ n = 6 ∨ n = 7 := by omega
  rcases a with rfl | rfl | rfl | rfl | rfl | rfl | rfl | rfl <;> rcases b with rfl | rfl | rfl | rfl | rfl | rfl | rfl | rfl <;> decide +kernel
/-- what a comprehension with a test has made so far, of items as they are -/
def PFil (H1 : Hp) (D : Addr) (xs : List V) (p : V → Bool) (i : Nat) (H' : Hp) : Prop := Same H1 H' ∧ H' D = some (.lst ((xs.take i).filter p))
theorem PFil.zero {H1 : Hp} {D : Addr} {xs : List V} {p : V → Bool} (nD : H1 D = none) : PFil H1 D xs p 0 (upd H1 D (.lst [])) := ⟨put_same nD, upd_same⟩
theorem PFil.skip {H1 H' : Hp} {D : Addr} {xs : List V} {p : V → Bool} {i : Nat} {x : V} (h : PFil H1 D xs p i H') (hx : xs[i]? = some x) (hp : p x = false) : PFil H1 D xs p (i + 1) H' := by
  obtain ⟨h1, h2⟩ := h
  refine ⟨h1, ?_⟩
  rw [h2, List.take_add_one, hx, List.filter_append]
  simp [hp]
theorem PFil.next {H1 H' H4 : Hp} {D : Addr} {xs : List V} {p : V → Bool} {i : Nat} {x : V} (h : PFil H1 D xs p i H') (nD : H1 D = none) (hx : xs[i]? = some x) (hp : p x = true) (hl : xs.length < 1000) (s : Same H' H4) : ∃ acc, H4 D = some (.lst acc) ∧ acc.length < sizeLine ∧ PFil H1 D xs p (i + 1) (upd H4 D (.lst (acc ++ [x]))) := by
  obtain ⟨h1, h2⟩ := h
  refine ⟨_, s _ _ h2, ?_, fun c o e => ?_, ?_⟩
  · refine Nat.lt_of_lt_of_le (Nat.lt_of_le_of_lt (List.length_filter_le _ _) ?_) (show 1000 ≤ sizeLine by decide)
    rw [List.length_take]
    omega
  · rw [upd_ne (ne_of_none e nD)]
    exact s _ _ (h1 _ _ e)
  · rw [upd_same, List.take_add_one, hx, List.filter_append]
    simp [hp]
def spDirs (K : PySem.W.Frag) : Sp := fun vs H Q _ => ∃ (t : Addr) (m : Nat), vs = [.ref t] ∧ m < 8 ∧ SqT K H t (wv m) ∧ ∀ H', Same H H' → Q (.bl true) H'
def spCheck : Sp := fun vs H Q _ => ∃ (l : Addr) (ps : List Addr) (xs : List Str), vs = [.ref l] ∧ H l = some (.lst (ps.map V.ref)) ∧ Paired (fun (t : Addr) (x : Str) => H t = some (.tup [.str x, .bl true])) ps xs ∧ Q .non H
section
variable {P : Program} {w : World} {K : PySem.W.Frag} {mg : Str → Option Value} {base : Heap} {dT wT cT pT : Addr}
theorem scDirs : FnScope ["value", "word"] ["value"] (defScope s__are_directions) := ⟨rfl, rfl, rfl, by decide +kernel, rfl, by decide +kernel, by decide +kernel⟩
theorem ok_dirs {f : Addr} {fd : FuncData} (F : Fun K "_are_directions" "_are_directions" s__are_directions f fd) (isi : mg "isinstance" = none) (tpl : mg "tuple" = none) (D : DirAt K mg dT wT cT pT) : FnOk P w K mg base CX0 1 f fd ["value"] (spDirs K) := by
  refine F.ok scDirs (fun vs H Q E h => ?_) (fun cdv A outer s H vs Q E hr h => ?_)
  · obtain ⟨t, m, rfl, _⟩ := h
    rfl
  · obtain ⟨t, m, rfl, hm, ht, k⟩ := h
    refine ⟨_, pss_one (ps_ret (pe_and (pe_callB call_isi (by rfl) isi (by decide +kernel) (pa_cons (pv 0) (pa_cons (pe_bltn (v := .ty "tuple") (by rfl) tpl (by decide +kernel) rfl) pa_nil)))
      (pe_one (pe_cmpR (op_eqD hr.units) (pv 0) (pe_callTy call_tuple_of (by rfl) tpl (by decide +kernel) (pa_cons (pe_lc (own := [("word", 1)]) (g := gName 1) rfl scDirs.nd (pi_tup (pe_glob (v := .ref dT) rfl D.dir rfl)) (blkOk_by (N := ["value", "word"]) (sc := defScope s__are_directions) (by decide +kernel))
        (fun _ _ _ _ _ => pg_name (i := 1) scDirs.nd rfl (Or.inl rfl)) (fun _ _ _ _ _ => pts_one (pt_cmpR (r := rIn K false) op_in_seq (pv 1) (pv 0) (by rfl))) (fun _ _ _ _ _ => pv 1)) pa_nil)) (nomark _))))), ?_⟩
    refine ⟨_, rfl, _, _, .type "tuple", .type "tuple", true, rfl, .ty "tuple", tyT ht, kit_ty (by decide +kernel), true, rfl, iteT ?_⟩
    refine ⟨_, rfl, dT, rfl, ⟨_, D.dirs H⟩, fun l nl => lc_tup (K := K) (a := dT) (xs := wv 7) (PFil H l (wv 7) fun x => inV x (wv m)) (.zero nl) (fun i H' _ _ => D.dirs H') (fun i x H' hx p => ?_) fun H1 p => ?_⟩
    · have fx : flatV x = true := by
        obtain ⟨hi, rfl⟩ := List.getElem?_eq_some_iff.mp hx
        exact List.all_eq_true.mp (ways_flat 7) _ (List.getElem_mem hi)
      refine ⟨rfl, _, rfl, _, rfl, t, wv m, rfl, .inr (sqT_same ht p.1), fx, ways_flat m, inV x (wv m), rfl, ?_⟩
      cases hc : inV x (wv m) with
      | true => exact iteT ⟨_, rfl, p.next nl hx hc (by decide) (Same.refl _)⟩
      | false => exact iteF (p.skip hx hc)
    · obtain ⟨s1, e1⟩ := p
      rw [List.take_length, ways_filter hm] at e1
      refine ⟨l, _, rfl, .inl ⟨SqL.of e1, fun u nu => ?_⟩⟩
      have s2 := put_same (o := .tup (wv m)) nu
      refine ⟨dW m, dW m, dp_w (sqT_same ht (s1.trans s2)), dp_w (.inl (.inl upd_same)), shaped_w m, shaped_w m, ?_⟩
      rw [eqv_self (shaped_w m)]
      exact k _ (s1.trans s2)
end
end Sc
/-! _check; a book made. -/
namespace Sc
open PySem L2
/-- what the walk asks of the class Book -/
structure TBk (K : PySem.W.Frag) (mg : Str → Option Value) (CB : Addr) : Prop where
  cl : Cls K CB
  n1 : NoAttr K CB "cleaned"
  n2 : NoAttr K CB "dropped"
  n3 : NoAttr K CB "bind_copied"
  n4 : NoAttr K CB "give_copied"
  n5 : NoAttr K CB "take_copied"
  mgB : mg "Book" = some (.ref CB)
def spBInit (K : PySem.W.Frag) (CB : Addr) : Sp := fun vs H Q _ => ∃ (p dx t1 t2 t3 t4 t5 : Addr) (v : B5), vs = [.ref p, .ref t1, .ref t2, .ref t3, .ref t4, .ref t5] ∧ H p = some (.ins CB dx []) ∧ ok5 v ∧ SqT K H t1 (wv v.1) ∧ SqT K H t2 (wv v.2.1) ∧ SqT K H t3 (wv v.2.2.1) ∧ SqT K H t4 (wv v.2.2.2.1) ∧ SqT K H t5 (wv v.2.2.2.2) ∧
  ∀ H', (∀ q o, q ≠ p → H q = some o → H' q = some o) → H' p = some (.ins CB dx (bkf t1 t2 t3 t4 t5)) → Q .non H'
theorem sqT_upd {K : PySem.W.Frag} {H H' : Hp} {a p : Addr} {xs : List V} (h : SqT K H a xs) (hp : ∀ ys, H p ≠ some (.tup ys)) (hf : ∀ o ys, H p ≠ some (.frz o ys)) (e : ∀ q o, q ≠ p → H q = some o → H' q = some o) : SqT K H' a xs := by
  rcases h with (h | ⟨o, h⟩) | h
  · exact .inl (.inl (e _ _ (fun z => hp xs (z ▸ h)) h))
  · exact .inl (.inr ⟨o, e _ _ (fun z => hf _ _ (z ▸ h)) h⟩)
  · exact .inr h
section
variable {P : Program} {w : World} {K : PySem.W.Frag} {mg : Str → Option Value} {base : Heap} {CB : Addr}
theorem scCheck : FnScope ["fields", "field", "right"] ["fields"] (defScope s__check) := ⟨rfl, rfl, rfl, by decide +kernel, rfl, by decide +kernel, by decide +kernel⟩
theorem ok_check {f : Addr} {fd : FuncData} (F : Fun K "_check" "_check" s__check f fd) : FnOk P w K mg base CX0 1 f fd ["fields"] spCheck := by
  refine F.ok scCheck (fun vs H Q E h => ?_) (fun cdv A outer s H vs Q E hr h => ?_)
  · obtain ⟨l, ps, xs, rfl, _⟩ := h
    rfl
  · obtain ⟨l, ps, xs, rfl, hl, hp, k⟩ := h
    refine ⟨_, pss_one (ps_for PassesOwn.never rfl (pi_list (pv 0)) (pg_tup rfl (pgs_cons (pg_name (i := 1) scCheck.nd rfl (Or.inl rfl)) (pgs_cons (pg_name (i := 2) scCheck.nd rfl (Or.inl rfl)) pgs_nil)))
      (pss_one (ps_if (pt_not (pt_val (pv 2))) (pss_one ps_never) pss_nil))), ?_⟩
    refine ⟨_, rfl, l, rfl, ⟨_, SqL.of hl⟩, for_list (K := K) (a := l) (xs := ps.map V.ref) (fun i σ H' => H' = H ∧ ∃ v1 v2 : Option V, σ = [some (.ref l), v1, v2]) ⟨rfl, none, none, rfl⟩ (fun i σ H' hi z => by rw [z.1]; exact SqL.of hl) (fun i x σ H' hx z => ?_) fun σ H' z => ?_⟩
    · obtain ⟨rfl, v1, v2, rfl⟩ := z
      rw [List.getElem?_map] at hx
      obtain ⟨t, ht, rfl⟩ := Option.map_eq_some_iff.mp hx
      have il : i < xs.length := by
        have := paired_len hp
        have := (List.getElem?_eq_some_iff.mp ht).1
        omega
      have et := paired_ith hp ht (List.getElem?_eq_getElem il)
      refine ⟨t, _, rfl, .inl (.inl et), rfl, _, _, rfl, _, _, rfl, rfl, ?_⟩
      exact ⟨_, rfl, true, rfl, iteF ⟨rfl, _, _, rfl⟩⟩
    · obtain ⟨rfl, _⟩ := z
      exact k
theorem scBInit : FnScope ["self", "cleaned", "dropped", "bind_copied", "give_copied", "take_copied"] ["self", "cleaned", "dropped", "bind_copied", "give_copied", "take_copied"] (defScope s_Book___init__) := ⟨rfl, rfl, rfl, by decide +kernel, rfl, by decide +kernel, by decide +kernel⟩
theorem ok_binit {f fD fC : Addr} {fd fdD fdC : FuncData} {kws : List (Str × V)} (F : FunD K "__init__" "Book.__init__" (defArgs s_Book___init__) (defBody s_Book___init__) (defScope s_Book___init__) [] kws f fd) (T : TBk K mg CB)
    (GD : FnOk P w K mg base CX0 1 fD fdD ["value"] (spDirs K)) (DD : Def K mg "_are_directions" fD fdD ["value"]) (GC : FnOk P w K mg base CX0 1 fC fdC ["fields"] spCheck) (DC : Def K mg "_check" fC fdC ["fields"]) : FnOk P w K mg base CX0 2 f fd ["self", "cleaned", "dropped", "bind_copied", "give_copied", "take_copied"] (spBInit K CB) := by
  refine F.ok scBInit (fun vs H Q E h => ?_) (fun cdv A outer s H vs Q E hr h => ?_)
  · obtain ⟨p, dx, t1, t2, t3, t4, t5, v, rfl, _⟩ := h
    rfl
  · obtain ⟨p, dx, t1, t2, t3, t4, t5, v, rfl, hp, hv, h1, h2, h3, h4, h5, k⟩ := h
    refine ⟨_, pss_cons (ps_expr (pe_call GC (hr.mono (by decide)) (by rfl) DC.at_ DC.kp DC.bd .nil pass0 (pa_cons (pe_lst (pa_cons (pe_tup (pa_cons pe_str (pa_cons (pe_call GD (hr.mono (by decide)) (by rfl) DD.at_ DD.kp DD.bd .nil pass0 (pa_cons (pv 1) pa_nil)) pa_nil))) (pa_cons (pe_tup (pa_cons pe_str (pa_cons (pe_call GD (hr.mono (by decide)) (by rfl) DD.at_ DD.kp DD.bd .nil pass0 (pa_cons (pv 2) pa_nil)) pa_nil))) (pa_cons (pe_tup (pa_cons pe_str (pa_cons (pe_call GD (hr.mono (by decide)) (by rfl) DD.at_ DD.kp DD.bd .nil pass0 (pa_cons (pv 3) pa_nil)) pa_nil))) (pa_cons (pe_tup (pa_cons pe_str (pa_cons (pe_call GD (hr.mono (by decide)) (by rfl) DD.at_ DD.kp DD.bd .nil pass0 (pa_cons (pv 4) pa_nil)) pa_nil))) (pa_cons (pe_tup (pa_cons pe_str (pa_cons (pe_call GD (hr.mono (by decide)) (by rfl) DD.at_ DD.kp DD.bd .nil pass0 (pa_cons (pv 5) pa_nil)) pa_nil))) pa_nil)))))) pa_nil)))
      (pss_cons (ps_fld (pv 0) (pv 1) rfl) (pss_cons (ps_fld (pv 0) (pv 2) rfl) (pss_cons (ps_fld (pv 0) (pv 3) rfl) (pss_cons (ps_fld (pv 0) (pv 4) rfl) (pss_one (ps_fld (pv 0) (pv 5) rfl)))))), ?_⟩
    refine ⟨_, rfl, t1, v.1, rfl, hv.1, h1, fun A1 sa1 => ⟨(by show 2 ≤ sizeLine; decide), fun u1 nu1 => ?_⟩⟩
    have su1 := put_same (o := .tup [.str "cleaned", .bl true]) nu1
    have k1 := sa1.trans su1
    refine ⟨_, rfl, t2, v.2.1, rfl, hv.2.1, (sqT_same h2 k1), fun A2 sa2 => ⟨(by show 2 ≤ sizeLine; decide), fun u2 nu2 => ?_⟩⟩
    have su2 := put_same (o := .tup [.str "dropped", .bl true]) nu2
    have g2 := sa2.trans su2
    have k2 := k1.trans g2
    refine ⟨_, rfl, t3, v.2.2.1, rfl, hv.2.2.1, (sqT_same h3 k2), fun A3 sa3 => ⟨(by show 2 ≤ sizeLine; decide), fun u3 nu3 => ?_⟩⟩
    have su3 := put_same (o := .tup [.str "bind_copied", .bl true]) nu3
    have g3 := sa3.trans su3
    have k3 := k2.trans g3
    refine ⟨_, rfl, t4, v.2.2.2.1, rfl, hv.2.2.2.1, (sqT_same h4 k3), fun A4 sa4 => ⟨(by show 2 ≤ sizeLine; decide), fun u4 nu4 => ?_⟩⟩
    have su4 := put_same (o := .tup [.str "give_copied", .bl true]) nu4
    have g4 := sa4.trans su4
    have k4 := k3.trans g4
    refine ⟨_, rfl, t5, v.2.2.2.2, rfl, hv.2.2.2.2, (sqT_same h5 k4), fun A5 sa5 => ⟨(by show 2 ≤ sizeLine; decide), fun u5 nu5 => ?_⟩⟩
    have su5 := put_same (o := .tup [.str "take_copied", .bl true]) nu5
    have g5 := sa5.trans su5
    have k5 := k4.trans g5
    refine ⟨(by show 5 ≤ sizeLine; decide), fun l nl => ?_⟩
    have sl := put_same (o := .lst [.ref u1, .ref u2, .ref u3, .ref u4, .ref u5]) nl
    have kl := k5.trans sl
    refine ⟨l, [u1, u2, u3, u4, u5], ["cleaned", "dropped", "bind_copied", "give_copied", "take_copied"], rfl, upd_same, .cons (sl _ _ (g5 _ _ (g4 _ _ (g3 _ _ (g2 _ _ upd_same))))) (.cons (sl _ _ (g5 _ _ (g4 _ _ (g3 _ _ upd_same)))) (.cons (sl _ _ (g5 _ _ (g4 _ _ upd_same))) (.cons (sl _ _ (g5 _ _ upd_same)) (.cons (sl _ _ upd_same) .nil)))), ?_⟩
    have ep := kl _ _ hp
    generalize upd _ l _ = HL at ep kl
    refine ⟨_, rfl, _, rfl, p, CB, dx, [], rfl, ep, T.cl, T.n1, (by show 0 < 1000; decide), ?_⟩
    refine ⟨_, rfl, _, rfl, p, CB, dx, _, rfl, upd_same, T.cl, T.n2, (by show 1 < 1000; decide), ?_⟩
    refine ⟨_, rfl, _, rfl, p, CB, dx, _, rfl, upd_same, T.cl, T.n3, (by show 2 < 1000; decide), ?_⟩
    refine ⟨_, rfl, _, rfl, p, CB, dx, _, rfl, upd_same, T.cl, T.n4, (by show 3 < 1000; decide), ?_⟩
    refine ⟨_, rfl, _, rfl, p, CB, dx, _, rfl, upd_same, T.cl, T.n5, (by show 4 < 1000; decide), ?_⟩
    refine k _ (fun q o hq e => ?_) upd_same
    rw [upd_ne hq, upd_ne hq, upd_ne hq, upd_ne hq, upd_ne hq]
    exact kl _ _ e
end
end Sc
/-! How Book's arguments are bound; Book(), Book(k = v, ..), _same_book. -/
namespace Sc
open PySem L2
abbrev NBk : List Str := ["self", "cleaned", "dropped", "bind_copied", "give_copied", "take_copied"]
def kwB (dT wT : Addr) : List (Str × V) := [("cleaned", .ref dT), ("dropped", .ref wT), ("bind_copied", .ref dT), ("give_copied", .ref dT), ("take_copied", .ref wT)]
abbrev FB (K : PySem.W.Frag) (dT wT f : Addr) (fd : FuncData) : Prop := FunD K "__init__" "Book.__init__" (defArgs s_Book___init__) (defBody s_Book___init__) (defScope s_Book___init__) [] (kwB dT wT) f fd
section
variable {K : PySem.W.Frag} {dT wT f : Addr} {fd : FuncData}
theorem kb_none (F : FB K dT wT f fd) : ∃ g, KBn K fd NBk 1 [] g (fun vs zs => vs ++ (kwB dT wT).map (·.2)) := by
  obtain ⟨mv, h⟩ := F.kbinds0 (ps := NBk) 1 [] (kwB dT wT) (fun vs mz zs => vs ++ mz) (fun z => by cases z) (fun q hq => hq) (fun a b c => a.append b) (fun D doc pm an cdv ct us mv ws hu hm hw => match us, mv, ws, hu, hm, hw with
    | [_], [_, _, _, _, _], [], _, _, _ => ⟨_, _, _, _, _, _, rfl, rfl, _, _, _, _, _, _, rfl, rfl, _, _, _, _, _, _, rfl, rfl, _, _, _, _, _, _, rfl, rfl, _, _, _, _, _, _, rfl, rfl, rfl⟩)
  exact ⟨_, h⟩
theorem kb_all (F : FB K dT wT f fd) : ∃ g, KBn K fd NBk 1 ["cleaned", "dropped", "bind_copied", "give_copied", "take_copied"] g (fun vs zs => vs ++ zs) := by
  obtain ⟨mv, h⟩ := F.kbinds0 (ps := NBk) 1 ["cleaned", "dropped", "bind_copied", "give_copied", "take_copied"] [] (fun vs mz zs => vs ++ zs) (fun z => by cases z) (fun q hq => by cases hq) (fun a b c => a.append c) (fun D doc pm an cdv ct us mv ws hu hm hw => match us, mv, ws, hu, hm, hw with
    | [_], [], [_, _, _, _, _], _, _, _ => rfl)
  exact ⟨_, h⟩
theorem kb_rev (F : FB K dT wT f fd) : ∃ g, KBn K fd NBk 1 ["take_copied", "give_copied", "bind_copied", "dropped", "cleaned"] g (fun vs zs => vs ++ zs.reverse) := by
  obtain ⟨mv, h⟩ := F.kbinds0 (ps := NBk) 1 ["take_copied", "give_copied", "bind_copied", "dropped", "cleaned"] [] (fun vs mz zs => vs ++ zs.reverse) (fun z => by cases z) (fun q hq => by cases hq) (fun a b c => a.append c.reverse) (fun D doc pm an cdv ct us mv ws hu hm hw => match us, mv, ws, hu, hm, hw with
    | [_], [], [_, _, _, _, _], _, _, _ => rfl)
  exact ⟨_, h⟩
end
/-- a new book -/
theorem book_new {K : PySem.W.Frag} {CB : Addr} {H H3 : Hp} {x dx t1 t2 t3 t4 t5 : Addr} {v : B5} (nx : H x = none) (nd : H dx = none) (ne : dx ≠ x) (hv : ok5 v) (h1 : SqT K H t1 (wv v.1)) (h2 : SqT K H t2 (wv v.2.1)) (h3 : SqT K H t3 (wv v.2.2.1)) (h4 : SqT K H t4 (wv v.2.2.2.1)) (h5 : SqT K H t5 (wv v.2.2.2.2)) :
    Same H (upd (upd H dx (.own x)) x (.ins CB dx [])) ∧ ((∀ q o, q ≠ x → (upd (upd H dx (.own x)) x (.ins CB dx [])) q = some o → H3 q = some o) → H3 x = some (.ins CB dx (bkf t1 t2 t3 t4 t5)) → Same H H3 ∧ BookAt K CB H3 x v) := by
  have s0 : Same H (upd (upd H dx (.own x)) x (.ins CB dx [])) := fun c o e => by
    rw [upd_ne (ne_of_none e nx), upd_ne (ne_of_none e nd)]
    exact e
  refine ⟨s0, fun hk e3 => ?_⟩
  have s3 : Same H H3 := fun c o e => hk _ _ (ne_of_none e nx) (s0 _ _ e)
  exact ⟨s3, dx, t1, t2, t3, t4, t5, e3, hv, sqT_same h1 s3, sqT_same h2 s3, sqT_same h3 s3, sqT_same h4 s3, sqT_same h5 s3⟩
def spSame (K : PySem.W.Frag) (CB : Addr) : Sp := fun vs H Q _ => ∃ (b : Addr) (v : B5), vs = [.ref b] ∧ BookAt K CB H b v ∧ ∀ H' b', Same H H' → H b' = none → BookAt K CB H' b' v → Q (.ref b') H'
section
variable {P : Program} {w : World} {K : PySem.W.Frag} {mg : Str → Option Value} {base : Heap} {CB dT wT : Addr}
theorem scSame : FnScope ["book"] ["book"] (defScope s__same_book) := ⟨rfl, rfl, rfl, by decide +kernel, rfl, by decide +kernel, by decide +kernel⟩
theorem ok_same {f fI : Addr} {fd fdI : FuncData} (F : Fun K "_same_book" "_same_book" s__same_book f fd) (T : TBk K mg CB) (M : Mk K CB fI) (GI : FnOk P w K mg base CX0 2 fI fdI NBk (spBInit K CB)) (FI : FB K dT wT fI fdI) : FnOk P w K mg base CX0 4 f fd ["book"] (spSame K CB) := by
  obtain ⟨g, hb⟩ := kb_all FI
  refine F.ok scSame (fun vs H Q E h => ?_) (fun cdv A outer s H vs Q E hr h => ?_)
  · obtain ⟨b, v, rfl, _⟩ := h
    rfl
  · obtain ⟨b, v, rfl, hB, k⟩ := h
    obtain ⟨dx0, t1, t2, t3, t4, t5, eb, hv, h1, h2, h3, h4, h5⟩ := hB
    refine ⟨_, pss_one (ps_ret (pe_makeK0 M GI hr (by rfl) T.mgB hb pass0 (pk_cons (pe_fld (pv 0) rfl) (pk_cons (pe_fld (pv 0) rfl) (pk_cons (pe_fld (pv 0) rfl) (pk_cons (pe_fld (pv 0) rfl) (pk_cons (pe_fld (pv 0) rfl) pk_nil))))))), ?_⟩
    refine ⟨_, rfl, b, CB, dx0, _, _, rfl, eb, T.cl, T.n1, bk1 .., _, rfl, b, CB, dx0, _, _, rfl, eb, T.cl, T.n2, bk2 .., _, rfl, b, CB, dx0, _, _, rfl, eb, T.cl, T.n3, bk3 .., _, rfl, b, CB, dx0, _, _, rfl, eb, T.cl, T.n4, bk4 .., _, rfl, b, CB, dx0, _, _, rfl, eb, T.cl, T.n5, bk5 .., rfl, rfl, fun x dx nx nd ne => ?_⟩
    obtain ⟨s0, fin⟩ := book_new (CB := CB) (H3 := H) nx nd ne hv h1 h2 h3 h4 h5
    refine ⟨x, dx, t1, t2, t3, t4, t5, v, rfl, upd_same, hv, sqT_same h1 s0, sqT_same h2 s0, sqT_same h3 s0, sqT_same h4 s0, sqT_same h5 s0, fun H3 hk e3 => ⟨rfl, ?_⟩⟩
    obtain ⟨s3, b3⟩ := (book_new (CB := CB) (H3 := H3) nx nd ne hv h1 h2 h3 h4 h5).2 hk e3
    exact k _ _ s3 nx b3
end
end Sc
/-! A setting made. -/
namespace Sc
open PySem L2
structure S8 where
  copies : Str
  cached : Bool
  batch : Int
  early : Bool
  drain : Bool
  policy : Str
  groups : Int
  tables : Int
deriving DecidableEq
abbrev cpV : List V := [.str "none", .str "ends", .str "all"]
abbrev plV : List V := [.str "first", .str "best", .str "worst", .str "next", .str "halves"]
structure S8.Ok (s : S8) : Prop where
  c : inV (.str s.copies) cpV = true
  b0 : 0 ≤ s.batch
  b1 : s.batch ≤ 8
  p : inV (.str s.policy) plV = true
  g0 : 1 ≤ s.groups
  g1 : s.groups ≤ 32
  t0 : 1 ≤ s.tables
  t1 : s.tables ≤ 32
abbrev std8 : S8 := ⟨"none", false, 0, false, true, "first", 16, 16⟩
theorem std8_ok : std8.Ok := ⟨by decide +kernel, by decide, by decide, by decide +kernel, by decide, by decide, by decide, by decide⟩
theorem ite_same {c : Bool} {A B : Prop} (ha : A) (hb : c = false → A → B) : if c = true then A else B := by
  cases c with
  | true => exact iteT ha
  | false => exact iteF (hb rfl ha)
abbrev NSt : List Str := ["self", "copies", "cached", "batch", "early", "drain", "policy", "groups", "tables", "book"]
abbrev vals8 (s : S8) : List V := [.str s.copies, .bl s.cached, .int s.batch, .bl s.early, .bl s.drain, .str s.policy, .int s.groups, .int s.tables]
def stf (s : S8) (b : Addr) : List (Str × V) := putF "book" (.ref b) (putF "tables" (.int s.tables) (putF "groups" (.int s.groups) (putF "policy" (.str s.policy) (putF "drain" (.bl s.drain) (putF "early" (.bl s.early) (putF "batch" (.int s.batch) (putF "cached" (.bl s.cached) (putF "copies" (.str s.copies) []))))))))
theorem sn1 : ¬ (("copies" : Str) = "cached") := by decide +kernel
theorem sn2 : ¬ (("copies" : Str) = "batch") := by decide +kernel
theorem sn3 : ¬ (("copies" : Str) = "early") := by decide +kernel
theorem sn4 : ¬ (("copies" : Str) = "drain") := by decide +kernel
theorem sn5 : ¬ (("copies" : Str) = "policy") := by decide +kernel
theorem sn6 : ¬ (("copies" : Str) = "groups") := by decide +kernel
theorem sn7 : ¬ (("copies" : Str) = "tables") := by decide +kernel
theorem sn8 : ¬ (("copies" : Str) = "book") := by decide +kernel
theorem sn9 : ¬ (("cached" : Str) = "batch") := by decide +kernel
theorem sn10 : ¬ (("cached" : Str) = "early") := by decide +kernel
theorem sn11 : ¬ (("cached" : Str) = "drain") := by decide +kernel
theorem sn12 : ¬ (("cached" : Str) = "policy") := by decide +kernel
theorem sn13 : ¬ (("cached" : Str) = "groups") := by decide +kernel
theorem sn14 : ¬ (("cached" : Str) = "tables") := by decide +kernel
theorem sn15 : ¬ (("cached" : Str) = "book") := by decide +kernel
theorem sn16 : ¬ (("batch" : Str) = "early") := by decide +kernel
theorem sn17 : ¬ (("batch" : Str) = "drain") := by decide +kernel
theorem sn18 : ¬ (("batch" : Str) = "policy") := by decide +kernel
theorem sn19 : ¬ (("batch" : Str) = "groups") := by decide +kernel
theorem sn20 : ¬ (("batch" : Str) = "tables") := by decide +kernel
theorem sn21 : ¬ (("batch" : Str) = "book") := by decide +kernel
theorem sn22 : ¬ (("early" : Str) = "drain") := by decide +kernel
theorem sn23 : ¬ (("early" : Str) = "policy") := by decide +kernel
theorem sn24 : ¬ (("early" : Str) = "groups") := by decide +kernel
theorem sn25 : ¬ (("early" : Str) = "tables") := by decide +kernel
theorem sn26 : ¬ (("early" : Str) = "book") := by decide +kernel
theorem sn27 : ¬ (("drain" : Str) = "policy") := by decide +kernel
theorem sn28 : ¬ (("drain" : Str) = "groups") := by decide +kernel
theorem sn29 : ¬ (("drain" : Str) = "tables") := by decide +kernel
theorem sn30 : ¬ (("drain" : Str) = "book") := by decide +kernel
theorem sn31 : ¬ (("policy" : Str) = "groups") := by decide +kernel
theorem sn32 : ¬ (("policy" : Str) = "tables") := by decide +kernel
theorem sn33 : ¬ (("policy" : Str) = "book") := by decide +kernel
theorem sn34 : ¬ (("groups" : Str) = "tables") := by decide +kernel
theorem sn35 : ¬ (("groups" : Str) = "book") := by decide +kernel
theorem sn36 : ¬ (("tables" : Str) = "book") := by decide +kernel
section
variable (s : S8) (b : Addr)
theorem st1 : (stf s b).lookup ("copies" : Str) = some (.str s.copies) := by
  unfold stf
  rw [lookup_putF, if_neg sn8, lookup_putF, if_neg sn7, lookup_putF, if_neg sn6, lookup_putF, if_neg sn5, lookup_putF, if_neg sn4, lookup_putF, if_neg sn3, lookup_putF, if_neg sn2, lookup_putF, if_neg sn1, lookup_putF, if_pos rfl]
theorem st2 : (stf s b).lookup ("cached" : Str) = some (.bl s.cached) := by
  unfold stf
  rw [lookup_putF, if_neg sn15, lookup_putF, if_neg sn14, lookup_putF, if_neg sn13, lookup_putF, if_neg sn12, lookup_putF, if_neg sn11, lookup_putF, if_neg sn10, lookup_putF, if_neg sn9, lookup_putF, if_pos rfl]
theorem st3 : (stf s b).lookup ("batch" : Str) = some (.int s.batch) := by
  unfold stf
  rw [lookup_putF, if_neg sn21, lookup_putF, if_neg sn20, lookup_putF, if_neg sn19, lookup_putF, if_neg sn18, lookup_putF, if_neg sn17, lookup_putF, if_neg sn16, lookup_putF, if_pos rfl]
theorem st4 : (stf s b).lookup ("early" : Str) = some (.bl s.early) := by
  unfold stf
  rw [lookup_putF, if_neg sn26, lookup_putF, if_neg sn25, lookup_putF, if_neg sn24, lookup_putF, if_neg sn23, lookup_putF, if_neg sn22, lookup_putF, if_pos rfl]
theorem st5 : (stf s b).lookup ("drain" : Str) = some (.bl s.drain) := by
  unfold stf
  rw [lookup_putF, if_neg sn30, lookup_putF, if_neg sn29, lookup_putF, if_neg sn28, lookup_putF, if_neg sn27, lookup_putF, if_pos rfl]
theorem st6 : (stf s b).lookup ("policy" : Str) = some (.str s.policy) := by
  unfold stf
  rw [lookup_putF, if_neg sn33, lookup_putF, if_neg sn32, lookup_putF, if_neg sn31, lookup_putF, if_pos rfl]
theorem st7 : (stf s b).lookup ("groups" : Str) = some (.int s.groups) := by
  unfold stf
  rw [lookup_putF, if_neg sn35, lookup_putF, if_neg sn34, lookup_putF, if_pos rfl]
theorem st8 : (stf s b).lookup ("tables" : Str) = some (.int s.tables) := by
  unfold stf
  rw [lookup_putF, if_neg sn36, lookup_putF, if_pos rfl]
theorem st9 : (stf s b).lookup ("book" : Str) = some (.ref b) := by
  unfold stf
  rw [lookup_putF, if_pos rfl]
end
def SetAt (K : PySem.W.Frag) (CS CB : Addr) (H : Hp) (a : Addr) (s : S8) (v : B5) : Prop := ∃ dx b, H a = some (.ins CS dx (stf s b)) ∧ s.Ok ∧ BookAt K CB H b v
theorem SetAt.same {K : PySem.W.Frag} {CS CB : Addr} {H H' : Hp} {a : Addr} {s : S8} {v : B5} (h : SetAt K CS CB H a s v) (e : Same H H') : SetAt K CS CB H' a s v := by
  obtain ⟨dx, b, h0, hs, hb⟩ := h
  exact ⟨dx, b, e _ _ h0, hs, hb.same e⟩
/-- what the walk asks of the class Setting -/
structure TSt (K : PySem.W.Frag) (mg : Str → Option Value) (CS : Addr) : Prop where
  cl : Cls K CS
  n1 : NoAttr K CS "copies"
  n2 : NoAttr K CS "cached"
  n3 : NoAttr K CS "batch"
  n4 : NoAttr K CS "early"
  n5 : NoAttr K CS "drain"
  n6 : NoAttr K CS "policy"
  n7 : NoAttr K CS "groups"
  n8 : NoAttr K CS "tables"
  n9 : NoAttr K CS "book"
  mgS : mg "Setting" = some (.ref CS)
/-- the argument book -/
def BkArg (K : PySem.W.Frag) (CB : Addr) (H : Hp) (x : V) (v : B5) : Prop := (x = .non ∧ v = std5) ∨ ∃ b, x = .ref b ∧ BookAt K CB H b v
def spStInit (K : PySem.W.Frag) (CS CB : Addr) : Sp := fun vs H Q _ => ∃ (p dx : Addr) (s : S8) (bk : V) (v : B5), vs = .ref p :: (vals8 s ++ [bk]) ∧ H p = some (.ins CS dx []) ∧ s.Ok ∧ BkArg K CB H bk v ∧
  ∀ H' b', (∀ q o, q ≠ p → H q = some o → H' q = some o) → H' p = some (.ins CS dx (stf s b')) → H b' = none → BookAt K CB H' b' v → Q .non H'
section
variable {P : Program} {w : World} {K : PySem.W.Frag} {mg : Str → Option Value} {base : Heap} {CS CB dT wT cT pT : Addr}
theorem scStInit : FnScope NSt NSt (defScope s_Setting___init__) := ⟨rfl, rfl, rfl, by decide +kernel, rfl, by decide +kernel, by decide +kernel⟩
theorem ok_stinit {f fC fW fS fI : Addr} {fd fdC fdW fdS fdI : FuncData} {kws : List (Str × V)} (F : FunD K "__init__" "Setting.__init__" (defArgs s_Setting___init__) (defBody s_Setting___init__) (defScope s_Setting___init__) [] kws f fd) (U : TSt K mg CS) (T : TBk K mg CB) (Z : IsR K CB) (isi : mg "isinstance" = none) (bool : mg "bool" = none) (D : DirAt K mg dT wT cT pT)
    (GC : FnOk P w K mg base CX0 1 fC fdC ["fields"] spCheck) (DC : Def K mg "_check" fC fdC ["fields"]) (GW : FnOk P w K mg base CX0 2 fW fdW ["value", "least", "most"] (spWhole K)) (DW : Def K mg "whole" fW fdW ["value", "least", "most"])
    (GS : FnOk P w K mg base CX0 4 fS fdS ["book"] (spSame K CB)) (DS : Def K mg "_same_book" fS fdS ["book"]) (M : Mk K CB fI) (GI : FnOk P w K mg base CX0 2 fI fdI NBk (spBInit K CB)) (FI : FB K dT wT fI fdI) : FnOk P w K mg base CX0 5 f fd NSt (spStInit K CS CB) := by
  obtain ⟨g0, hb0⟩ := kb_none FI
  refine F.ok scStInit (fun vs H Q E h => ?_) (fun cdv A outer s H vs Q E hr h => ?_)
  · obtain ⟨p, dx, s, bk, v, rfl, _⟩ := h
    rfl
  · obtain ⟨p, dx, s, bk, v, rfl, hp, hs, hB, k⟩ := h
    refine ⟨_, pss_cons (ps_expr (pe_call GC (hr.mono (by decide)) (by rfl) DC.at_ DC.kp DC.bd .nil pass0 (pa_cons (pe_lst (pa_cons (pe_tup (pa_cons pe_str (pa_cons (pe_cmpR (r := rIn K false) op_in_seq (pv 1) (pe_glob (v := .ref cT) rfl D.cop rfl) (by rfl)) pa_nil)))
          (pa_cons (pe_tup (pa_cons pe_str (pa_cons (pe_callB call_isi (by rfl) isi (by decide +kernel) (pa_cons (pv 2) (pa_cons (pe_bltn (v := .ty "bool") (by rfl) bool (by decide +kernel) rfl) pa_nil))) pa_nil)))
          (pa_cons (pe_tup (pa_cons pe_str (pa_cons (pe_call GW (hr.mono (by decide)) (by rfl) DW.at_ DW.kp DW.bd .nil pass0 (pa_cons (pv 3) (pa_cons pe_int (pa_cons pe_int pa_nil)))) pa_nil)))
          (pa_cons (pe_tup (pa_cons pe_str (pa_cons (pe_callB call_isi (by rfl) isi (by decide +kernel) (pa_cons (pv 4) (pa_cons (pe_bltn (v := .ty "bool") (by rfl) bool (by decide +kernel) rfl) pa_nil))) pa_nil)))
          (pa_cons (pe_tup (pa_cons pe_str (pa_cons (pe_callB call_isi (by rfl) isi (by decide +kernel) (pa_cons (pv 5) (pa_cons (pe_bltn (v := .ty "bool") (by rfl) bool (by decide +kernel) rfl) pa_nil))) pa_nil)))
          (pa_cons (pe_tup (pa_cons pe_str (pa_cons (pe_cmpR (r := rIn K false) op_in_seq (pv 6) (pe_glob (v := .ref pT) rfl D.pol rfl) (by rfl)) pa_nil)))
          (pa_cons (pe_tup (pa_cons pe_str (pa_cons (pe_call GW (hr.mono (by decide)) (by rfl) DW.at_ DW.kp DW.bd .nil pass0 (pa_cons (pv 7) (pa_cons pe_int (pa_cons pe_int pa_nil)))) pa_nil)))
          (pa_cons (pe_tup (pa_cons pe_str (pa_cons (pe_call GW (hr.mono (by decide)) (by rfl) DW.at_ DW.kp DW.bd .nil pass0 (pa_cons (pv 8) (pa_cons pe_int (pa_cons pe_int pa_nil)))) pa_nil)))
          (pa_cons (pe_tup (pa_cons pe_str (pa_cons (pe_or (pe_cmpR op_isN (pv 9) pe_non (nomark _)) (pe_one (pe_callB call_isi (by rfl) isi (by decide +kernel) (pa_cons (pv 9) (pa_cons (pe_glob (v := .ref CB) rfl T.mgB rfl) pa_nil))))) pa_nil)))
          pa_nil)))))))))) pa_nil)))
      (pss_cons (ps_fld (pv 0) (pv 1) rfl) (pss_cons (ps_fld (pv 0) (pv 2) rfl) (pss_cons (ps_fld (pv 0) (pv 3) rfl) (pss_cons (ps_fld (pv 0) (pv 4) rfl) (pss_cons (ps_fld (pv 0) (pv 5) rfl) (pss_cons (ps_fld (pv 0) (pv 6) rfl) (pss_cons (ps_fld (pv 0) (pv 7) rfl) (pss_cons (ps_fld (pv 0) (pv 8) rfl) (pss_one (ps_fld (pv 0) (pe_ifExp (pt_cmpR op_isN (pv 9) pe_non (nomark _)) (pe_makeK0 M GI (hr.mono (by decide)) (by rfl) T.mgB hb0 pass0 pk_nil) (pe_call GS hr (by rfl) DS.at_ DS.kp DS.bd .nil pass0 (pa_cons (pv 9) pa_nil))) rfl)))))))))), ?_⟩
    have c1 := hs.c
    refine ⟨_, rfl, cT, cpV, rfl, .inr (D.cops _), rfl, rfl, ?_⟩
    rw [show (if false = true then !inV (.str s.copies) cpV else inV (.str s.copies) cpV) = true from c1]
    refine ⟨(by show 2 ≤ sizeLine; decide), fun u1 nu1 => ?_⟩
    have su1 := put_same (o := .tup [.str "copies", .bl true]) nu1
    have k1 := su1
    refine ⟨_, rfl, _, _, .type "bool", .type "bool", true, rfl, .ty "bool", .base (.bl _), kit_ty (by decide +kernel), (by show 2 ≤ sizeLine; decide), fun u2 nu2 => ?_⟩
    have su2 := put_same (o := .tup [.str "cached", .bl true]) nu2
    have k2 := k1.trans su2
    have c3 : decide ((0 : Int) ≤ s.batch ∧ s.batch ≤ 8) = true := decide_eq_true ⟨hs.b0, hs.b1⟩
    refine ⟨_, rfl, _, _, _, rfl, .inl ⟨_, rfl, ?_⟩⟩
    rw [c3]
    refine ⟨(by show 2 ≤ sizeLine; decide), fun u3 nu3 => ?_⟩
    have su3 := put_same (o := .tup [.str "batch", .bl true]) nu3
    have k3 := k2.trans su3
    refine ⟨_, rfl, _, _, .type "bool", .type "bool", true, rfl, .ty "bool", .base (.bl _), kit_ty (by decide +kernel), (by show 2 ≤ sizeLine; decide), fun u4 nu4 => ?_⟩
    have su4 := put_same (o := .tup [.str "early", .bl true]) nu4
    have k4 := k3.trans su4
    refine ⟨_, rfl, _, _, .type "bool", .type "bool", true, rfl, .ty "bool", .base (.bl _), kit_ty (by decide +kernel), (by show 2 ≤ sizeLine; decide), fun u5 nu5 => ?_⟩
    have su5 := put_same (o := .tup [.str "drain", .bl true]) nu5
    have k5 := k4.trans su5
    have c6 := hs.p
    refine ⟨_, rfl, pT, plV, rfl, .inr (D.pols _), rfl, rfl, ?_⟩
    rw [show (if false = true then !inV (.str s.policy) plV else inV (.str s.policy) plV) = true from c6]
    refine ⟨(by show 2 ≤ sizeLine; decide), fun u6 nu6 => ?_⟩
    have su6 := put_same (o := .tup [.str "policy", .bl true]) nu6
    have k6 := k5.trans su6
    have c7 : decide ((1 : Int) ≤ s.groups ∧ s.groups ≤ 32) = true := decide_eq_true ⟨hs.g0, hs.g1⟩
    refine ⟨_, rfl, _, _, _, rfl, .inl ⟨_, rfl, ?_⟩⟩
    rw [c7]
    refine ⟨(by show 2 ≤ sizeLine; decide), fun u7 nu7 => ?_⟩
    have su7 := put_same (o := .tup [.str "groups", .bl true]) nu7
    have k7 := k6.trans su7
    have c8 : decide ((1 : Int) ≤ s.tables ∧ s.tables ≤ 32) = true := decide_eq_true ⟨hs.t0, hs.t1⟩
    refine ⟨_, rfl, _, _, _, rfl, .inl ⟨_, rfl, ?_⟩⟩
    rw [c8]
    refine ⟨(by show 2 ≤ sizeLine; decide), fun u8 nu8 => ?_⟩
    have su8 := put_same (o := .tup [.str "tables", .bl true]) nu8
    have k8 := k7.trans su8
    refine ⟨_, rfl, rfl, _, rfl, ite_same ?rest fun hc q => ?isb⟩
    case isb =>
      rcases hB with ⟨rfl, _⟩ | ⟨b, rfl, hb⟩
      · cases hc
      · obtain ⟨dxb, _, _, _, _, _, eb, _⟩ := hb.same k8
        exact ⟨_, rfl, _, _, .ref CB, .ref CB, true, rfl, .own CB, .base (.ins eb T.cl Z.ha Z.hn Z.htk Z.hm), kit_self, q⟩
    refine ⟨(by show 2 ≤ sizeLine; decide), fun u9 nu9 => ?_⟩
    have su9 := put_same (o := .tup [.str "book", .bl true]) nu9
    have k9 := k8.trans su9
    refine ⟨(by show 9 ≤ sizeLine; decide), fun l nl => ?_⟩
    have sl := put_same (o := .lst [.ref u1, .ref u2, .ref u3, .ref u4, .ref u5, .ref u6, .ref u7, .ref u8, .ref u9]) nl
    have kl := k9.trans sl
    refine ⟨l, [u1, u2, u3, u4, u5, u6, u7, u8, u9], ["copies", "cached", "batch", "early", "drain", "policy", "groups", "tables", "book"], rfl, upd_same, (.cons (sl _ _ (su9 _ _ (su8 _ _ (su7 _ _ (su6 _ _ (su5 _ _ (su4 _ _ (su3 _ _ (su2 _ _ upd_same))))))))) (.cons (sl _ _ (su9 _ _ (su8 _ _ (su7 _ _ (su6 _ _ (su5 _ _ (su4 _ _ (su3 _ _ upd_same)))))))) (.cons (sl _ _ (su9 _ _ (su8 _ _ (su7 _ _ (su6 _ _ (su5 _ _ (su4 _ _ upd_same))))))) (.cons (sl _ _ (su9 _ _ (su8 _ _ (su7 _ _ (su6 _ _ (su5 _ _ upd_same)))))) (.cons (sl _ _ (su9 _ _ (su8 _ _ (su7 _ _ (su6 _ _ upd_same))))) (.cons (sl _ _ (su9 _ _ (su8 _ _ (su7 _ _ upd_same)))) (.cons (sl _ _ (su9 _ _ (su8 _ _ upd_same))) (.cons (sl _ _ (su9 _ _ upd_same)) (.cons (sl _ _ upd_same) .nil))))))))), ?_⟩
    have ep := kl _ _ hp
    generalize upd _ l _ = HL at ep kl
    refine ⟨_, rfl, _, rfl, p, CS, dx, [], rfl, ep, U.cl, U.n1, (by show 0 < 1000; decide), ?_⟩
    refine ⟨_, rfl, _, rfl, p, CS, dx, _, rfl, upd_same, U.cl, U.n2, (by show 1 < 1000; decide), ?_⟩
    refine ⟨_, rfl, _, rfl, p, CS, dx, _, rfl, upd_same, U.cl, U.n3, (by show 2 < 1000; decide), ?_⟩
    refine ⟨_, rfl, _, rfl, p, CS, dx, _, rfl, upd_same, U.cl, U.n4, (by show 3 < 1000; decide), ?_⟩
    refine ⟨_, rfl, _, rfl, p, CS, dx, _, rfl, upd_same, U.cl, U.n5, (by show 4 < 1000; decide), ?_⟩
    refine ⟨_, rfl, _, rfl, p, CS, dx, _, rfl, upd_same, U.cl, U.n6, (by show 5 < 1000; decide), ?_⟩
    refine ⟨_, rfl, _, rfl, p, CS, dx, _, rfl, upd_same, U.cl, U.n7, (by show 6 < 1000; decide), ?_⟩
    refine ⟨_, rfl, _, rfl, p, CS, dx, _, rfl, upd_same, U.cl, U.n8, (by show 7 < 1000; decide), ?_⟩
    repeat rw [upd_upd]
    have offp : ∀ o', ∀ q o, q ≠ p → H q = some o → (upd HL p o') q = some o := fun o' q o hq e => by
      rw [upd_ne hq]
      exact kl _ _ e
    generalize hM : (HO.ins CS dx (putF "tables" (.int s.tables) (putF "groups" (.int s.groups) (putF "policy" (.str s.policy) (putF "drain" (.bl s.drain) (putF "early" (.bl s.early) (putF "batch" (.int s.batch) (putF "cached" (.bl s.cached) (putF "copies" (.str s.copies) []))))))))) = oM
    replace offp := offp oM
    have eM : (upd HL p oM) p = some oM := upd_same
    generalize upd HL p oM = HM at offp eM ⊢
    subst hM
    have inp : ∀ {a : Addr} {xs : List V}, SqT K H a xs → SqT K HM a xs := fun h => sqT_upd h (fun ys z => by rw [hp] at z; cases z) (fun o ys z => by rw [hp] at z; cases z) offp
    refine ⟨_, rfl, rfl, _, rfl, ?_⟩
    rcases hB with ⟨rfl, rfl⟩ | ⟨b, rfl, hb⟩
    · refine iteT ⟨rfl, rfl, fun x dxx nx nd ne => ?_⟩
      obtain ⟨s0, fin⟩ := book_new (CB := CB) (H3 := HM) nx nd ne ok_std (D.dirs HM) (D.wris HM) (D.dirs HM) (D.dirs HM) (D.wris HM)
      refine ⟨x, dxx, dT, wT, dT, dT, wT, std5, rfl, upd_same, ok_std, D.dirs _, D.wris _, D.dirs _, D.dirs _, D.wris _, fun H3 hk e3 => ⟨rfl, ?_⟩⟩
      obtain ⟨s3, b3⟩ := (book_new (CB := CB) (H3 := H3) nx nd ne ok_std (D.dirs HM) (D.wris HM) (D.dirs HM) (D.dirs HM) (D.wris HM)).2 hk e3
      refine ⟨_, rfl, p, CS, dx, _, rfl, s3 _ _ eM, U.cl, U.n9, (by show 8 < 1000; decide), ?_⟩
      have nxH : H x = none := by
        cases q : H x with
        | none => rfl
        | some o =>
          by_cases z : x = p
          · rw [z, eM] at nx
            cases nx
          · rw [offp _ _ z q] at nx
            cases nx
      have nep : x ≠ p := fun z => by rw [z, eM] at nx; cases nx
      exact k _ x (fun q o hq e => by rw [upd_ne hq]; exact s3 _ _ (offp _ _ hq e)) upd_same nxH (by
        obtain ⟨d1, r1, r2, r3, r4, r5, q0, qv, q1, q2, q3, q4, q5⟩ := b3
        refine ⟨d1, r1, r2, r3, r4, r5, by rw [upd_ne nep]; exact q0, qv, ?_, ?_, ?_, ?_, ?_⟩
        all_goals refine sqT_upd (by assumption) (fun ys z => ?_) (fun o ys z => ?_) (fun q o hq e => by rw [upd_ne hq]; exact e)
        all_goals
          rw [s3 _ _ eM] at z
          cases z)
    · refine iteF ⟨_, rfl, b, v, rfl, ?_, fun H3 x s3 nx b3 => ?_⟩
      · obtain ⟨d1, r1, r2, r3, r4, r5, q0, qv, q1, q2, q3, q4, q5⟩ := hb
        exact ⟨d1, r1, r2, r3, r4, r5, offp _ _ (fun z => by rw [z, hp] at q0; injection q0 with q0; injection q0 with _ _ q0; exact absurd (congrArg (fun l => l.lookup ("take_copied" : Str)) q0) (by rw [bk5]; simp)) q0, qv, inp q1, inp q2, inp q3, inp q4, inp q5⟩
      refine ⟨_, rfl, p, CS, dx, _, rfl, s3 _ _ eM, U.cl, U.n9, (by show 8 < 1000; decide), ?_⟩
      have nxH : H x = none := by
        cases q : H x with
        | none => rfl
        | some o =>
          by_cases z : x = p
          · rw [z, eM] at nx
            cases nx
          · rw [offp _ _ z q] at nx
            cases nx
      have nep : x ≠ p := fun z => by rw [z, eM] at nx; cases nx
      exact k _ x (fun q o hq e => by rw [upd_ne hq]; exact s3 _ _ (offp _ _ hq e)) upd_same nxH (by
        obtain ⟨d1, r1, r2, r3, r4, r5, q0, qv, q1, q2, q3, q4, q5⟩ := b3
        refine ⟨d1, r1, r2, r3, r4, r5, by rw [upd_ne nep]; exact q0, qv, ?_, ?_, ?_, ?_, ?_⟩
        all_goals refine sqT_upd (by assumption) (fun ys z => ?_) (fun o ys z => ?_) (fun q o hq e => by rw [upd_ne hq]; exact e)
        all_goals
          rw [s3 _ _ eM] at z
          cases z)
end
end Sc
/-! a != y, a an instance of a class with an own == and no own !=. -/
namespace Ow
open PySem PySem.Spec PyProof.Rows L2
theorem ne_binds (self : Value) : bindSpecial (.builtin "object.__ne__") self = pure (.builtin "object.__ne__", [self]) :=
  (Slot.of (T := "object") (name := "__ne__") (owner := "object") (n := "__ne__") (by rw [typeLookup_type, builtinLookup_eq_fast]; kernel_rfl) (by decide +kernel) (by decide +kernel) (by decide +kernel)
    (.inl (by decide +kernel)) (by rw [isSubtype_type]; kernel_rfl)).bind self
theorem ne_plain : plainId "object.__ne__" = true := by decide +kernel
def NeBack (Q : Value → Shared → Prop) (v : Value) (s' : Shared) : Prop := ∃ b, v = .bool b ∧ Q (.bool (!b)) s'
section
variable {prog : Program} {w : World} {A : Around} {E : Value → Shared → Prop} {s : Shared} {K : PySem.W.Frag} {x C L f : Addr} {h₀ : Heap} {m : Str → Option Value} {ox : Obj} {od : Option Obj} {b tb : Value}
theorem call_ne {Q : Value → Shared → Prop} (X : K.In s.heap) (I : PySem.W.InstAt s.heap x ox C od) (hm : PySem.W.mroIn K C (.type "object") = some true) (hs : PySem.W.findIn K (.ref C) "__eq__" = some (some (.ref f))) (hf : PySem.W.isFn K (.ref f) = true)
    (hu : A.units + 1 < cLine) (h : wpAny (model prog w) A.in1 (call (.ref f) [.ref x, b]) (NeBack Q) E s) : wpAny (model prog w) A (call (.builtin "object.__ne__") [.ref x, b]) Q E s := by
  refine wpAny_call (codeAny_call_builtin ne_plain F.cmpEntry_ne (PySem.W.check_slot F.cmpKind_ne F.cmpSplit_ne (I.type.andThen (PySem.W.looks_mroIn X hm)) (F.cmpArgs_ne _ _) ?_))
  have hu' : A.in1.units < cLine := hu
  have hX : wpAny (model prog w) A.in1 (callSpecialIfBound? (.ref x) "__eq__" [b]) (fun r s' => ∃ v, r = some v ∧ NeBack Q v s') E s := PySem.W.ifBound_K X I hs hf (wpAny_mono h (fun v s' q => ⟨v, rfl, q⟩) fun _ _ z => z)
  unfold Builtin.«object.__ne__»
  refine wpAny_bind (wpAny_pure ?_)
  refine wpAny_bind (wpAny_cRoomFor hu' ?_)
  refine wpAny_bind (wpAny_mono hX (fun r s' q => ?_) fun _ _ z => z)
  obtain ⟨v, rfl, b', rfl, q⟩ := q
  exact wpAny_bind (wpAny_truthy_bool (wpAny_pure q))
theorem try_ne {Q : Option Value → Shared → Prop} (X : K.In s.heap) (I : PySem.W.InstAt s.heap x ox C od) (hn : PySem.W.findIn K (.ref C) "__ne__" = some (some (.builtin "object.__ne__"))) (h : wpAny (model prog w) A (call (.builtin "object.__ne__") [.ref x, b]) (fun v s' => v ≠ .notImplemented ∧ Q (some v) s') E s) :
    wpAny (model prog w) A (tryCompare (.ref x) "__ne__" b) Q E s := by
  have run : wpAny (model prog w) A (call (.builtin "object.__ne__") ([.ref x] ++ [b]) >>= fun v => pure (some v)) (fun r s' => ∃ v, r = some v ∧ v ≠ .notImplemented ∧ Q (some v) s') E s := wpAny_bind (wpAny_mono h (fun v s' q => wpAny_pure ⟨v, rfl, q⟩) fun _ _ z => z)
  have go : wpAny (model prog w) A (callSpecialIfBound? (.ref x) "__ne__" [b]) (fun r s' => ∃ v, r = some v ∧ v ≠ .notImplemented ∧ Q (some v) s') E s := by
    unfold callSpecialIfBound? bindSpecialIfBound?
    refine wpAny_holding ?_
    refine wpAny_bind (wpAny_bind (wpAny_bind (I.type.here ((PySem.W.looks_findIn X hn).here ?_))))
    dsimp only
    rw [ne_binds]
    refine wpAny_bind (wpAny_askSetting (wpAny_ite ?_))
    split
    · exact wpAny_bind (wpAny_pure (wpAny_pure (by exact run)))
    · exact wpAny_tryCatch (wpAny_bind (wpAny_pure (wpAny_pure (by exact run))))
  unfold tryCompare
  refine wpAny_bind (wpAny_mono go (fun r s' q => ?_) fun _ _ z => z)
  obtain ⟨v, rfl, ne, q⟩ := q
  cases v <;> first | exact absurd rfl ne | exact wpAny_pure q
theorem cmp_ne {Q : Value → Shared → Prop} (hu : A.units + 1 < cLine) (X : K.In s.heap) (I : PySem.W.InstAt s.heap x ox C od) (hb : PySem.W.Looks (model prog w) s.heap (typeOf b) tb) (hn : PySem.W.notFirst K C tb = true) (hne : PySem.W.findIn K (.ref C) "__ne__" = some (some (.builtin "object.__ne__")))
    (hm : PySem.W.mroIn K C (.type "object") = some true) (hs : PySem.W.findIn K (.ref C) "__eq__" = some (some (.ref f))) (hf : PySem.W.isFn K (.ref f) = true) (h : wpAny (model prog w) A.in1 (call (.ref f) [.ref x, b]) (NeBack Q) E s) :
    wpAny (model prog w) A (compareOp .NotEq (.ref x) b) Q E s := by
  have one : wpAny (model prog w) A (tryCompare (.ref x) "__ne__" b) (fun r s' => ∃ v, r = some v ∧ Q v s') E s := try_ne X I hne (call_ne X I hm hs hf hu (wpAny_mono h (fun v s' q => by
    obtain ⟨c, rfl, q⟩ := q
    exact ⟨c, rfl, (fun z => nomatch z), ⟨_, rfl, q⟩⟩) fun _ _ z => z))
  show wpAny _ _ (richCompare .NotEq (.ref x) b) _ _ _
  unfold richCompare
  rw [oneThing_ref]
  refine wpAny_holding (wpAny_bind (wpAny_cRoomFor (Nat.lt_of_succ_lt hu) (wpAny_bind (I.type.here (wpAny_bind (hb.here ?_))))))
  have tail : ∀ {α : Type} {k : Option Value → Sem Value}, (∀ v, k (some v) = pure v) → wpAny (model prog w) A (tryCompare (.ref x) "__ne__" b >>= k) Q E s := fun hk => wpAny_bind (wpAny_mono one (fun r s' z => by
    obtain ⟨v, rfl, q⟩ := z
    rw [hk]
    exact wpAny_pure q) fun _ _ e => e)
  by_cases e : tb = .ref C
  · subst e
    rw [if_neg (by simp)]
    exact wpAny_bind (wpAny_pure (tail (α := Unit) fun v => rfl))
  · have e2 : PySem.W.subIn K tb (.ref C) = some false := by
      have z := hn
      unfold PySem.W.notFirst at z
      simpa [e] using z
    rw [if_pos (by simpa using fun z => e z.symm)]
    exact wpAny_bind ((PySem.W.looks_subIn X e2).here (tail (α := Unit) fun v => rfl))
end
section
variable {X : Cx} {CX : CXT} {k : Nat} {C f : Addr} {fd : FuncData} {ps : List Str} {sp : Sp} {E : XK}
/-- a != y -/
def rNeO (K : PySem.W.Frag) (C : Addr) (sp : Sp) (E : XK) : R2 := fun x y H Q => ∃ a dx fs t, x = .ref a ∧ H a = some (.ins C dx fs) ∧ TyX K H y t ∧ PySem.W.notFirst K C t = true ∧ sp [.ref a, y] H (fun v H' => ∃ b, v = .bl b ∧ Q (.bl (!b)) H') E
theorem op_neO (F : FnOk X.prog X.w X.K X.mg X.base CX k f fd ps sp) (hr : Room (k + 1) X.A) (hn : PySem.W.findIn X.K (.ref C) "__ne__" = some (some (.builtin "object.__ne__"))) (hm : PySem.W.mroIn X.K C (.type "object") = some true)
    (hs : PySem.W.findIn X.K (.ref C) "__eq__" = some (some (.ref f))) (hf : PySem.W.isFn X.K (.ref f) = true) (hb : Binds X.K fd ps []) (hx : Passes CX X E) : OpR X (compareOp .NotEq) (rNeO X.K C sp E) := by
  intro pins s σ H x y v u Q I rx ry h
  obtain ⟨a, dx, fs, t, rfl, ha, ty, hnf, q⟩ := h
  obtain rfl : v = Value.ref a := rx
  obtain ⟨mA, J, _⟩ := ins_get I.hok ha
  obtain ⟨od, J, _⟩ := J.look
  obtain ⟨P, kx, hP, _⟩ := kit_of I ry ty
  refine cmp_ne (tb := t) hr.in1.units0 I.kIn J (kx.ty _ _ I.kIn hP) hnf hn hm hs hf (wpAny_mono (run_own F hr.in1 I.env0.in1 hb hx I (vs := [.ref a, y]) (.cons (show RelV (.ref a) (.ref a) from rfl) (.cons ry .nil)) q) (fun w s' hq => ?_) fun _ _ z => z)
  obtain ⟨z, H', I', rw', b, rfl, q'⟩ := hq
  cases rw'
  exact ⟨b, rfl, .bl (!b), H', I', rfl, q'⟩
end
end Ow
/-! Books and settings compared with anything. -/
namespace Sc
open PySem L2
def spBEq (K : PySem.W.Frag) (CB : Addr) : Sp := fun vs H Q _ => ∃ (a : Addr) (v : B5) (y : V), vs = [.ref a, y] ∧ BookAt K CB H a v ∧
  ((∃ (b : Addr) (u : B5), y = .ref b ∧ BookAt K CB H b u ∧ Q (.bl (decide (v = u))) H) ∨ ∃ t, TyX K H y t ∧ PySem.W.kitOne K t (.ref CB) = some false ∧ Q (.bl false) H)
def spSEq (K : PySem.W.Frag) (CS CB : Addr) : Sp := fun vs H Q _ => ∃ (a : Addr) (s : S8) (v : B5) (y : V), vs = [.ref a, y] ∧ SetAt K CS CB H a s v ∧
  ((∃ (b : Addr) (r : S8) (u : B5), y = .ref b ∧ SetAt K CS CB H b r u ∧ Q (.bl (decide (s = r ∧ v = u))) H) ∨ ∃ t, TyX K H y t ∧ PySem.W.kitOne K t (.ref CS) = some false ∧ Q (.bl false) H)
section
variable {P : Program} {w : World} {K : PySem.W.Frag} {mg : Str → Option Value} {base : Heap} {CS CB : Addr}
theorem scBEq : FnScope ["self", "other"] ["self", "other"] (defScope s_Book___eq__) := ⟨rfl, rfl, rfl, by decide +kernel, rfl, by decide +kernel, by decide +kernel⟩
theorem ok_beq {f : Addr} {fd : FuncData} (F : Fun K "__eq__" "Book.__eq__" s_Book___eq__ f fd) (T : TBk K mg CB) (Z : IsR K CB) (isi : mg "isinstance" = none) : FnOk P w K mg base CX0 1 f fd ["self", "other"] (spBEq K CB) := by
  refine F.ok scBEq (fun vs H Q E h => ?_) (fun cdv A outer s H vs Q E hr h => ?_)
  · obtain ⟨a, v, y, rfl, _⟩ := h
    rfl
  · obtain ⟨a, ⟨v1, v2, v3, v4, v5⟩, y, rfl, ⟨dx, a1, a2, a3, a4, a5, ea, ⟨va1, va2, va3, va4, va5⟩, sa1, sa2, sa3, sa4, sa5⟩, k⟩ := h
    refine ⟨_, pss_one (ps_ret (pe_and (pe_callB call_isi (by rfl) isi (by decide +kernel) (pa_cons (pv 1) (pa_cons (pe_glob (v := .ref CB) rfl T.mgB rfl) pa_nil))) (pe_and (pe_cmpR (op_eqD hr.units) (pe_fld (pv 0) rfl) (pe_fld (pv 1) rfl) (nomark _)) (pe_and (pe_cmpR (op_eqD hr.units) (pe_fld (pv 0) rfl) (pe_fld (pv 1) rfl) (nomark _)) (pe_and (pe_cmpR (op_eqD hr.units) (pe_fld (pv 0) rfl) (pe_fld (pv 1) rfl) (nomark _)) (pe_and (pe_cmpR (op_eqD hr.units) (pe_fld (pv 0) rfl) (pe_fld (pv 1) rfl) (nomark _)) (pe_one (pe_cmpR (op_eqD hr.units) (pe_fld (pv 0) rfl) (pe_fld (pv 1) rfl) (nomark _))))))))), ?_⟩
    rcases k with ⟨b, ⟨u1, u2, u3, u4, u5⟩, rfl, ⟨dy, b1, b2, b3, b4, b5, eb, ⟨vb1, vb2, vb3, vb4, vb5⟩, sb1, sb2, sb3, sb4, sb5⟩, k⟩ | ⟨t, ty, hk, k⟩
    · refine ⟨_, rfl, _, _, .ref CB, .ref CB, true, rfl, .own CB, .base (.ins eb T.cl Z.ha Z.hn Z.htk Z.hm), kit_self, true, rfl, iteT ?_⟩
      refine ⟨_, rfl, a, CB, dx, _, _, rfl, ea, T.cl, T.n1, bk1 .., _, rfl, b, CB, dy, _, _, rfl, eb, T.cl, T.n1, bk1 .., dW v1, dW u1, dp_w sa1, dp_w sb1, shaped_w _, shaped_w _, ?_⟩
      rw [eqv_w va1 vb1]
      refine ⟨_, rfl, ?_⟩
      by_cases z1 : v1 = u1
      case neg =>
        rw [decide_eq_false z1]
        rw [show decide ((v1, v2, v3, v4, v5) = (u1, u2, u3, u4, u5)) = false from decide_eq_false fun q => z1 (by injections)] at k
        exact iteF k
      subst z1
      rw [decide_eq_true rfl]
      refine iteT ?_
      refine ⟨_, rfl, a, CB, dx, _, _, rfl, ea, T.cl, T.n2, bk2 .., _, rfl, b, CB, dy, _, _, rfl, eb, T.cl, T.n2, bk2 .., dW v2, dW u2, dp_w sa2, dp_w sb2, shaped_w _, shaped_w _, ?_⟩
      rw [eqv_w va2 vb2]
      refine ⟨_, rfl, ?_⟩
      by_cases z2 : v2 = u2
      case neg =>
        rw [decide_eq_false z2]
        rw [show decide ((v1, v2, v3, v4, v5) = (v1, u2, u3, u4, u5)) = false from decide_eq_false fun q => z2 (by injections)] at k
        exact iteF k
      subst z2
      rw [decide_eq_true rfl]
      refine iteT ?_
      refine ⟨_, rfl, a, CB, dx, _, _, rfl, ea, T.cl, T.n3, bk3 .., _, rfl, b, CB, dy, _, _, rfl, eb, T.cl, T.n3, bk3 .., dW v3, dW u3, dp_w sa3, dp_w sb3, shaped_w _, shaped_w _, ?_⟩
      rw [eqv_w va3 vb3]
      refine ⟨_, rfl, ?_⟩
      by_cases z3 : v3 = u3
      case neg =>
        rw [decide_eq_false z3]
        rw [show decide ((v1, v2, v3, v4, v5) = (v1, v2, u3, u4, u5)) = false from decide_eq_false fun q => z3 (by injections)] at k
        exact iteF k
      subst z3
      rw [decide_eq_true rfl]
      refine iteT ?_
      refine ⟨_, rfl, a, CB, dx, _, _, rfl, ea, T.cl, T.n4, bk4 .., _, rfl, b, CB, dy, _, _, rfl, eb, T.cl, T.n4, bk4 .., dW v4, dW u4, dp_w sa4, dp_w sb4, shaped_w _, shaped_w _, ?_⟩
      rw [eqv_w va4 vb4]
      refine ⟨_, rfl, ?_⟩
      by_cases z4 : v4 = u4
      case neg =>
        rw [decide_eq_false z4]
        rw [show decide ((v1, v2, v3, v4, v5) = (v1, v2, v3, u4, u5)) = false from decide_eq_false fun q => z4 (by injections)] at k
        exact iteF k
      subst z4
      rw [decide_eq_true rfl]
      refine iteT ?_
      refine ⟨_, rfl, a, CB, dx, _, _, rfl, ea, T.cl, T.n5, bk5 .., _, rfl, b, CB, dy, _, _, rfl, eb, T.cl, T.n5, bk5 .., dW v5, dW u5, dp_w sa5, dp_w sb5, shaped_w _, shaped_w _, ?_⟩
      rw [eqv_w va5 vb5]
      rw [show decide ((v1, v2, v3, v4, v5) = (v1, v2, v3, v4, u5)) = decide (v5 = u5) from decide_eq_decide.mpr ⟨fun q => by injections, fun q => by rw [q]⟩] at k
      exact k
    · exact ⟨_, rfl, _, _, t, .ref CB, false, rfl, .own CB, ty, hk, false, rfl, iteF k⟩
theorem scSEq : FnScope ["self", "other"] ["self", "other"] (defScope s_Setting___eq__) := ⟨rfl, rfl, rfl, by decide +kernel, rfl, by decide +kernel, by decide +kernel⟩
theorem ok_seq {f fB : Addr} {fd fdB : FuncData} (F : Fun K "__eq__" "Setting.__eq__" s_Setting___eq__ f fd) (U : TSt K mg CS) (ZS : IsR K CS) (T : TBk K mg CB) (Z : IsR K CB) (isi : mg "isinstance" = none) (GB : FnOk P w K mg base CX0 1 fB fdB ["self", "other"] (spBEq K CB))
    (hsB : PySem.W.findIn K (.ref CB) "__eq__" = some (some (.ref fB))) (hfB : PySem.W.isFn K (.ref fB) = true) (bB : Binds K fdB ["self", "other"] []) (nfB : PySem.W.notFirst K CB (.ref CB) = true) : FnOk P w K mg base CX0 2 f fd ["self", "other"] (spSEq K CS CB) := by
  refine F.ok scSEq (fun vs H Q E h => ?_) (fun cdv A outer s H vs Q E hr h => ?_)
  · obtain ⟨a, s, v, y, rfl, _⟩ := h
    rfl
  · obtain ⟨a, ⟨s1, s2, s3, s4, s5, s6, s7, s8⟩, v, y, rfl, ⟨dx, ba, ea, oa, hba⟩, k⟩ := h
    refine ⟨_, pss_one (ps_ret (pe_and (pe_callB call_isi (by rfl) isi (by decide +kernel) (pa_cons (pv 1) (pa_cons (pe_glob (v := .ref CS) rfl U.mgS rfl) pa_nil))) (pe_and (pe_cmpR op_eq (pe_fld (pv 0) rfl) (pe_fld (pv 1) rfl) (nomark _)) (pe_and (pe_cmpR op_eq (pe_fld (pv 0) rfl) (pe_fld (pv 1) rfl) (nomark _)) (pe_and (pe_cmpR op_eq (pe_fld (pv 0) rfl) (pe_fld (pv 1) rfl) (nomark _)) (pe_and (pe_cmpR op_eq (pe_fld (pv 0) rfl) (pe_fld (pv 1) rfl) (nomark _)) (pe_and (pe_cmpR op_eq (pe_fld (pv 0) rfl) (pe_fld (pv 1) rfl) (nomark _)) (pe_and (pe_cmpR op_eq (pe_fld (pv 0) rfl) (pe_fld (pv 1) rfl) (nomark _)) (pe_and (pe_cmpR op_eq (pe_fld (pv 0) rfl) (pe_fld (pv 1) rfl) (nomark _)) (pe_and (pe_cmpR op_eq (pe_fld (pv 0) rfl) (pe_fld (pv 1) rfl) (nomark _)) (pe_one (pe_cmpR (Ow.op_eqO GB (hr.mono (by decide)) hsB hfB bB pass0) (pe_fld (pv 0) rfl) (pe_fld (pv 1) rfl) (nomark _))))))))))))), ?_⟩
    rcases k with ⟨b, ⟨r1, r2, r3, r4, r5, r6, r7, r8⟩, u, rfl, ⟨dy, bb, eb, ob, hbb⟩, k⟩ | ⟨t, ty, hk, k⟩
    · refine ⟨_, rfl, _, _, .ref CS, .ref CS, true, rfl, .own CS, .base (.ins eb U.cl ZS.ha ZS.hn ZS.htk ZS.hm), kit_self, true, rfl, iteT ?_⟩
      refine ⟨_, rfl, a, CS, dx, _, _, rfl, ea, U.cl, U.n1, st1 .., _, rfl, b, CS, dy, _, _, rfl, eb, U.cl, U.n1, st1 .., rfl, _, rfl, ?_⟩
      by_cases z1 : s1 = r1
      case neg =>
        rw [show decide (V.str s1 = V.str r1) = false from decide_eq_false fun q => z1 (by injection q)]
        rw [show decide ((⟨s1, s2, s3, s4, s5, s6, s7, s8⟩ : S8) = (⟨r1, r2, r3, r4, r5, r6, r7, r8⟩ : S8) ∧ v = u) = false from decide_eq_false fun q => z1 (by have := q.1; injection this)] at k
        exact iteF k
      subst z1
      rw [show decide (V.str s1 = V.str s1) = true from decide_eq_true rfl]
      refine iteT ?_
      refine ⟨_, rfl, a, CS, dx, _, _, rfl, ea, U.cl, U.n2, st2 .., _, rfl, b, CS, dy, _, _, rfl, eb, U.cl, U.n2, st2 .., rfl, _, rfl, ?_⟩
      by_cases z2 : s2 = r2
      case neg =>
        rw [show decide (V.bl s2 = V.bl r2) = false from decide_eq_false fun q => z2 (by injection q)]
        rw [show decide ((⟨s1, s2, s3, s4, s5, s6, s7, s8⟩ : S8) = (⟨s1, r2, r3, r4, r5, r6, r7, r8⟩ : S8) ∧ v = u) = false from decide_eq_false fun q => z2 (by have := q.1; injection this)] at k
        exact iteF k
      subst z2
      rw [show decide (V.bl s2 = V.bl s2) = true from decide_eq_true rfl]
      refine iteT ?_
      refine ⟨_, rfl, a, CS, dx, _, _, rfl, ea, U.cl, U.n3, st3 .., _, rfl, b, CS, dy, _, _, rfl, eb, U.cl, U.n3, st3 .., rfl, _, rfl, ?_⟩
      by_cases z3 : s3 = r3
      case neg =>
        rw [show decide (V.int s3 = V.int r3) = false from decide_eq_false fun q => z3 (by injection q)]
        rw [show decide ((⟨s1, s2, s3, s4, s5, s6, s7, s8⟩ : S8) = (⟨s1, s2, r3, r4, r5, r6, r7, r8⟩ : S8) ∧ v = u) = false from decide_eq_false fun q => z3 (by have := q.1; injection this)] at k
        exact iteF k
      subst z3
      rw [show decide (V.int s3 = V.int s3) = true from decide_eq_true rfl]
      refine iteT ?_
      refine ⟨_, rfl, a, CS, dx, _, _, rfl, ea, U.cl, U.n4, st4 .., _, rfl, b, CS, dy, _, _, rfl, eb, U.cl, U.n4, st4 .., rfl, _, rfl, ?_⟩
      by_cases z4 : s4 = r4
      case neg =>
        rw [show decide (V.bl s4 = V.bl r4) = false from decide_eq_false fun q => z4 (by injection q)]
        rw [show decide ((⟨s1, s2, s3, s4, s5, s6, s7, s8⟩ : S8) = (⟨s1, s2, s3, r4, r5, r6, r7, r8⟩ : S8) ∧ v = u) = false from decide_eq_false fun q => z4 (by have := q.1; injection this)] at k
        exact iteF k
      subst z4
      rw [show decide (V.bl s4 = V.bl s4) = true from decide_eq_true rfl]
      refine iteT ?_
      refine ⟨_, rfl, a, CS, dx, _, _, rfl, ea, U.cl, U.n5, st5 .., _, rfl, b, CS, dy, _, _, rfl, eb, U.cl, U.n5, st5 .., rfl, _, rfl, ?_⟩
      by_cases z5 : s5 = r5
      case neg =>
        rw [show decide (V.bl s5 = V.bl r5) = false from decide_eq_false fun q => z5 (by injection q)]
        rw [show decide ((⟨s1, s2, s3, s4, s5, s6, s7, s8⟩ : S8) = (⟨s1, s2, s3, s4, r5, r6, r7, r8⟩ : S8) ∧ v = u) = false from decide_eq_false fun q => z5 (by have := q.1; injection this)] at k
        exact iteF k
      subst z5
      rw [show decide (V.bl s5 = V.bl s5) = true from decide_eq_true rfl]
      refine iteT ?_
      refine ⟨_, rfl, a, CS, dx, _, _, rfl, ea, U.cl, U.n6, st6 .., _, rfl, b, CS, dy, _, _, rfl, eb, U.cl, U.n6, st6 .., rfl, _, rfl, ?_⟩
      by_cases z6 : s6 = r6
      case neg =>
        rw [show decide (V.str s6 = V.str r6) = false from decide_eq_false fun q => z6 (by injection q)]
        rw [show decide ((⟨s1, s2, s3, s4, s5, s6, s7, s8⟩ : S8) = (⟨s1, s2, s3, s4, s5, r6, r7, r8⟩ : S8) ∧ v = u) = false from decide_eq_false fun q => z6 (by have := q.1; injection this)] at k
        exact iteF k
      subst z6
      rw [show decide (V.str s6 = V.str s6) = true from decide_eq_true rfl]
      refine iteT ?_
      refine ⟨_, rfl, a, CS, dx, _, _, rfl, ea, U.cl, U.n7, st7 .., _, rfl, b, CS, dy, _, _, rfl, eb, U.cl, U.n7, st7 .., rfl, _, rfl, ?_⟩
      by_cases z7 : s7 = r7
      case neg =>
        rw [show decide (V.int s7 = V.int r7) = false from decide_eq_false fun q => z7 (by injection q)]
        rw [show decide ((⟨s1, s2, s3, s4, s5, s6, s7, s8⟩ : S8) = (⟨s1, s2, s3, s4, s5, s6, r7, r8⟩ : S8) ∧ v = u) = false from decide_eq_false fun q => z7 (by have := q.1; injection this)] at k
        exact iteF k
      subst z7
      rw [show decide (V.int s7 = V.int s7) = true from decide_eq_true rfl]
      refine iteT ?_
      refine ⟨_, rfl, a, CS, dx, _, _, rfl, ea, U.cl, U.n8, st8 .., _, rfl, b, CS, dy, _, _, rfl, eb, U.cl, U.n8, st8 .., rfl, _, rfl, ?_⟩
      by_cases z8 : s8 = r8
      case neg =>
        rw [show decide (V.int s8 = V.int r8) = false from decide_eq_false fun q => z8 (by injection q)]
        rw [show decide ((⟨s1, s2, s3, s4, s5, s6, s7, s8⟩ : S8) = (⟨s1, s2, s3, s4, s5, s6, s7, r8⟩ : S8) ∧ v = u) = false from decide_eq_false fun q => z8 (by have := q.1; injection this)] at k
        exact iteF k
      subst z8
      rw [show decide (V.int s8 = V.int s8) = true from decide_eq_true rfl]
      refine iteT ?_
      rw [show decide ((⟨s1, s2, s3, s4, s5, s6, s7, s8⟩ : S8) = (⟨s1, s2, s3, s4, s5, s6, s7, s8⟩ : S8) ∧ v = u) = decide (v = u) from decide_eq_decide.mpr ⟨fun q => q.2, fun q => ⟨rfl, q⟩⟩] at k
      obtain ⟨db, _, _, _, _, _, ebb, _⟩ := id hbb
      obtain ⟨da, _, _, _, _, _, eba, _⟩ := id hba
      exact ⟨_, rfl, a, CS, dx, _, _, rfl, ea, U.cl, U.n9, st9 .., _, rfl, b, CS, dy, _, _, rfl, eb, U.cl, U.n9, st9 .., ba, da, _, .ref CB, rfl, eba, .base (.ins ebb T.cl Z.ha Z.hn Z.htk Z.hm), nfB, ba, v, .ref bb, rfl, hba, .inl ⟨bb, u, rfl, hbb, _, rfl, k⟩⟩
    · exact ⟨_, rfl, _, _, t, .ref CS, false, rfl, .own CS, ty, hk, false, rfl, iteF k⟩
end
end Sc
/-! The bag of two cells from which the laws over settings and machines draw. -/
namespace Sc
open PySem L2
/-- for i, x in enumerate(xs) -/
theorem for_enum {K : PySem.W.Frag} {a : Addr} {xs : List V} {g : TG} {tb : TS} {D : Ends} {σ : St} {H : Hp} (Pv : Nat → St → Hp → Prop) (h0 : Pv 0 σ H) (hl : ∀ i σ H, i ≤ xs.length → Pv i σ H → SqL K H a xs)
    (hs : ∀ i x σ H T, xs[i]? = some x → Pv i σ H → H T = none → g (.ref T) σ (upd H T (.tup [.int (i : Nat), x])) fun σ2 H2 => tb { D with nx := Pv (i + 1), ct := Pv (i + 1), bk := D.nx } σ2 H2) (hd : ∀ σ H, Pv xs.length σ H → D.nx σ H) :
    ∃ W : Nat → Nat → St → Hp → Prop, (∃ m, W 0 m σ H) ∧ ∀ i m σ H, W i m σ H →
      ((Ite K a).stop i H ∧ D.nx σ H) ∨ ((Ite K a).go i H ∧ ∃ N : St → Hp → Prop, (∀ σ' H', N σ' H' → ∃ m', m' < m ∧ W (i + 1) m' σ' H') ∧ ∀ x H', (Ite K a).yld i H x H' → g x σ H' fun σ2 H2 => tb { D with nx := N, ct := N, bk := D.nx } σ2 H2) := by
  refine ⟨fun i m σ' H' => i + m = xs.length ∧ Pv i σ' H', ⟨xs.length, Nat.zero_add _, h0⟩, fun i m σ' H' w => ?_⟩
  have sq := hl i σ' H' (by omega) w.2
  cases m with
  | zero =>
    have e : i = xs.length := w.1
    subst e
    exact .inl ⟨⟨xs, sq, Nat.le_refl _⟩, hd _ _ w.2⟩
  | succ m =>
    have lt : i < xs.length := by omega
    have ex : xs[i]? = some xs[i] := List.getElem?_eq_getElem lt
    refine .inr ⟨⟨xs, xs[i], sq, ex⟩, Pv (i + 1), fun σ2 H2 z => ⟨m, Nat.lt_succ_self m, by omega, z⟩, ?_⟩
    rintro v H2 ⟨T, x, rfl, nT, rfl, hx⟩
    exact hs i x σ' H' T (hx xs sq) w.2 nT
def Off (b : Addr) (H H' : Hp) : Prop := ∀ c, c ≠ b → H' c = H c
def BagS (H : Hp) (b : Addr) : Prop := ∃ l x : Int, H b = some (.lst [.int l, .int x]) ∧ 0 ≤ l ∧ 0 ≤ x ∧ x < 2147483648
def spTake2 : Sp := fun vs H Q _ => ∃ (b : Addr) (m : Int), vs = [.ref b, .int m] ∧ 1 ≤ m ∧ m < 1073741824 ∧ BagS H b ∧ ∀ (r : Int) (H' : Hp), 0 ≤ r → r < m → BagS H' b → Off b H H' → Q (.int r) H'
def spBag2 (K : PySem.W.Frag) : Sp := fun vs H Q _ => ∃ (a : Addr) (ns : List Int) (i : Int), vs = [.ref a, .int i] ∧ SqL K H a (ns.map V.int) ∧ ns.length ≤ 63 ∧ 0 ≤ i ∧ i ≤ 63 ∧ ∀ (p : Addr) (H' : Hp), H p = none → Same H H' → BagS H' p → Q (.ref p) H'
theorem fmod_in {a m : Int} (h : 1 ≤ m) : 0 ≤ a.fmod m ∧ a.fmod m < m := by
  rw [Int.fmod_eq_emod_of_nonneg a (by omega)]
  exact ⟨Int.emod_nonneg _ (by omega), Int.emod_lt_of_pos _ (by omega)⟩
theorem fdiv_in {a m : Int} (h : 1 ≤ m) (ha : 0 ≤ a) : 0 ≤ a.fdiv m := by
  rw [Int.fdiv_eq_ediv_of_nonneg a (by omega)]
  exact Int.ediv_nonneg ha (by omega)
section
variable {P : Program} {w : World} {K : PySem.W.Frag} {mg : Str → Option Value} {base : Heap}
theorem scTake2 : FnScope ["_law_bag_here", "_law_many", "_law_digit"] ["_law_bag_here", "_law_many"] (defScope s__law_take) := ⟨rfl, rfl, rfl, by decide +kernel, rfl, by decide +kernel, by decide +kernel⟩
theorem ok_take2 {f : Addr} {fd : FuncData} (F : Fun K "_law_take" "_law_take" s__law_take f fd) : FnOk P w K mg base CX0 1 f fd ["_law_bag_here", "_law_many"] spTake2 := by
  refine F.ok scTake2 (fun vs H Q E h => ?_) (fun cdv A outer s H vs Q E hr h => ?_)
  · obtain ⟨b, m, rfl, _⟩ := h
    rfl
  · obtain ⟨b, m, rfl, m1, m2, ⟨l, x, hb, l0, x0, x1⟩, k⟩ := h
    refine ⟨_, pss_cons (ps_if (pt_cmpR op_gt (pe_ix ix_list (pv 0) pe_int (fun _ _ => rfl)) pe_int (nomark _))
        (pss_cons (ps_set (i := 2) scTake2.nd rfl (Or.inl rfl) (pe_op op_modN (pe_ix ix_list (pv 0) pe_int (fun _ _ => rfl)) (pv 1)))
        (pss_cons (ps_asg (pe_op op_fdivN (pe_ix ix_list (pv 0) pe_int (fun _ _ => rfl)) (pv 1)) (pg_sub (pv 0) pe_int set_list))
        (pss_one (ps_ret (pv 2))))) pss_nil)
      (pss_cons (ps_asg (pe_op op_mod (pe_op op_add (pe_op op_mul (pe_ix ix_list (pv 0) pe_int (fun _ _ => rfl)) pe_int) pe_int) pe_int) (pg_sub (pv 0) pe_int set_list))
      (pss_one (ps_ret (pe_op op_modN (pe_op op_fdiv (pe_op op_mod (pe_op op_mul (pe_op op_fdiv (pe_ix ix_list (pv 0) pe_int (fun _ _ => rfl)) pe_int) pe_int) pe_int) pe_int) (pv 1))))), ?_⟩
    refine ⟨_, rfl, b, _, _, _, rfl, rfl, SqL.of hb, rfl, _, _, rfl, rfl, _, rfl, ?_⟩
    refine ite2 (fun hl => ?_) (fun hl => ?_)
    · have hl' : 0 < l := of_decide_eq_true hl
      refine ⟨_, rfl, b, _, _, _, rfl, rfl, SqL.of hb, rfl, _, rfl, _, _, rfl, rfl, by omega, ?_⟩
      refine ⟨_, rfl, b, _, _, _, rfl, rfl, SqL.of hb, rfl, _, rfl, _, _, rfl, rfl, ⟨by omega, by omega⟩, _, rfl, b, _, _, 0, rfl, rfl, hb, rfl, ?_⟩
      refine ⟨_, rfl, k _ _ (fmod_in m1).1 (fmod_in m1).2 ⟨_, x, upd_same, fdiv_in m1 l0, x0, x1⟩ fun d hd => upd_ne hd⟩
    · refine ⟨_, rfl, b, _, _, _, rfl, rfl, SqL.of hb, rfl, _, _, rfl, rfl, .inr ⟨by decide, by decide⟩, _, _, rfl, rfl, _, _, rfl, rfl, (by show (0 : Int) < 2147483399; decide), _, rfl, b, _, _, 1, rfl, rfl, hb, rfl, ?_⟩
      dsimp only [List.set]
      generalize hy : (x * 40692 + 3301) % 2147483399 = y
      have y0 : 0 ≤ y := by rw [← hy]; exact Int.emod_nonneg _ (by decide)
      have y1 : y < 2147483399 := by rw [← hy]; exact Int.emod_lt_of_pos _ (by decide)
      have hb2 : (upd H b (.lst [.int l, .int y])) b = some (.lst [.int l, .int y]) := upd_same
      refine ⟨_, rfl, b, _, _, _, rfl, rfl, SqL.of hb2, rfl, _, _, rfl, rfl, ⟨by decide, by decide⟩, _, _, rfl, rfl, .inr ⟨by decide, by decide⟩, _, _, rfl, rfl, (by show (0 : Int) < 2147483587; decide), _, _, rfl, rfl, ⟨by decide, by decide⟩, _, rfl, _, _, rfl, rfl, by omega, ?_⟩
      exact k _ _ (fmod_in m1).1 (fmod_in m1).2 ⟨l, y, hb2, l0, y0, by omega⟩ fun d hd => upd_ne hd
abbrev NBg : List Str := ["_law_script", "_law_at", "_law_cell", "_law_mixed", "_law_spot", "_law_each"]
theorem scBag2 : FnScope NBg ["_law_script", "_law_at"] (defScope s__law_bag) := ⟨rfl, rfl, rfl, by decide +kernel, rfl, by decide +kernel, by decide +kernel⟩
theorem ok_bag2 {f : Addr} {fd : FuncData} (F : Fun K "_law_bag" "_law_bag" s__law_bag f fd) (len : mg "len" = none) (abs : mg "abs" = none) (enum : mg "enumerate" = none) : FnOk P w K mg base CX0 1 f fd ["_law_script", "_law_at"] (spBag2 K) := by
  refine F.ok scBag2 (fun vs H Q E h => ?_) (fun cdv A outer s H vs Q E hr h => ?_)
  · obtain ⟨a, ns, i, rfl, _⟩ := h
    rfl
  · obtain ⟨a, ns, i, rfl, hS, hl, i0, i1, k⟩ := h
    refine ⟨_, C8.pss_cut (ps_set (i := 2) scBag2.nd rfl (Or.inl rfl) (pe_ifExp (pt_cmpR op_lt (pv 1) (pe_callB call_len_seq (by rfl) len PySem.boot_len (pa_cons (pv 0) pa_nil)) (nomark _)) (pe_ix ix_list (pv 0) (pv 1) (fun _ _ => rfl)) pe_int))
      (pss_cons (ps_set (i := 3) scBag2.nd rfl (Or.inl rfl) (pe_op op_add (pe_op op_mul pe_int (pv 1)) pe_int))
      (pss_cons (ps_for PassesOwn.never rfl (pi_enum (by rfl) enum (pa_cons (pe_slice (r := rSlL K) sl_list (pv 0) po_none (po_some pe_int)) pa_nil)) (pg_tup rfl (pgs_cons (pg_name (i := 4) scBag2.nd rfl (Or.inl rfl)) (pgs_cons (pg_name (i := 5) scBag2.nd rfl (Or.inl rfl)) pgs_nil)))
        (pss_one (ps_set (i := 3) scBag2.nd rfl (Or.inl rfl) (pe_op op_mod (pe_op op_add (pe_op op_add (pe_op op_add (pe_op op_mul (pv 3) pe_int) (pe_op op_mod (pv 5) pe_int)) (pe_op op_mul pe_int (pv 4))) pe_int) pe_int))))
      (pss_one (ps_ret (pe_lst (pa_cons (pe_ifExp (pt_cmpR op_ge (pe_callB call_abs (by rfl) abs (by decide +kernel) (pa_cons (pv 2) pa_nil)) (pe_op op_pow pe_int pe_int) (nomark _)) (pe_callB call_abs (by rfl) abs (by decide +kernel) (pa_cons (pv 2) pa_nil)) pe_int) (pa_cons (pv 3) pa_nil))))))), ?_⟩
    refine ⟨fun σ' H' => H' = H ∧ ∃ z : Int, σ' = [some (.ref a), some (.int i), some (.int z), none, none, none], ?_, fun σ' H' z => ?_⟩
    · refine ⟨_, rfl, _, rfl, a, _, rfl, .inl hS, _, _, rfl, rfl, _, rfl, ?_⟩
      refine ite2 (fun h1 => ?_) (fun h1 => ⟨rfl, 0, rfl⟩)
      have h2 : i < ((ns.map V.int).length : Int) := of_decide_eq_true h1
      rw [List.length_map] at h2
      have hn : i.toNat < ns.length := by omega
      refine ⟨_, rfl, _, rfl, a, _, _, .int ns[i.toNat], rfl, rfl, hS, ?_, ⟨rfl, _, rfl⟩⟩
      refine at_of (j := i.toNat) (by omega) ?_
      rw [List.getElem?_map, List.getElem?_eq_getElem hn] <;> rfl
    · obtain ⟨rfl, z, rfl⟩ := z
      refine ⟨_, rfl, _, _, rfl, rfl, .inl ⟨by decide, by decide⟩, _, _, rfl, rfl, ?_⟩
      dsimp only
      refine ⟨_, rfl, _, rfl, a, _, rfl, hS, fun q nq => ⟨q, _, rfl, SqL.of upd_same, ?_⟩⟩
      have sq := put_same (o := .lst (cutV (ns.map V.int) none (some 40))) nq
      have eq1 : (upd H' q (.lst (cutV (ns.map V.int) none (some 40)))) q = some (.lst (cutV (ns.map V.int) none (some 40))) := upd_same
      generalize upd H' q (.lst (cutV (ns.map V.int) none (some 40))) = Hq at sq eq1 ⊢
      have isInt : ∀ (j : Nat) (x : V), (cutV (ns.map V.int) none (some 40))[j]? = some x → ∃ n, x = .int n := fun j x hx => by
        have m1 := List.mem_of_getElem? hx
        unfold cutV at m1
        obtain ⟨n, _, rfl⟩ := List.mem_map.mp (List.mem_of_mem_drop (List.mem_of_mem_take m1))
        exact ⟨n, rfl⟩
      refine for_enum (K := K) (a := q) (xs := cutV (ns.map V.int) none (some 40)) (fun j σ H' => Same Hq H' ∧ ∃ (x : Int) (v4 v5 : Option V), 0 ≤ x ∧ x < 2147483648 ∧ σ = [some (.ref a), some (.int i), some (.int z), some (.int x), v4, v5]) ⟨Same.refl _, _, none, none, ?_, ?_, rfl⟩ (fun j σ H' _ p => SqL.of (p.1 _ _ eq1)) (fun j x σ H' T hx p nT => ?_) fun σ H' p => ?_
      · omega
      · omega
      · obtain ⟨s1, x0, v4, v5, x1, x2, rfl⟩ := p
        obtain ⟨n, rfl⟩ := isInt j x hx
        refine ⟨T, _, rfl, .inl (.inl upd_same), rfl, _, _, rfl, _, _, rfl, rfl, ?_⟩
        refine ⟨_, rfl, _, _, rfl, rfl, .inr ⟨by decide, by decide⟩, _, rfl, _, _, rfl, rfl, (by show (0 : Int) < 2147483563; decide), _, _, rfl, rfl, _, rfl, _, _, rfl, rfl, .inl ⟨by decide, by decide⟩, _, _, rfl, rfl, _, _, rfl, rfl, _, _, rfl, rfl, (by show (0 : Int) < 2147483563; decide), ?_⟩
        refine ⟨s1.trans (put_same nT), _, _, _, Int.emod_nonneg _ (by decide), Int.lt_trans (Int.emod_lt_of_pos _ (by decide)) (by decide), rfl⟩
      · obtain ⟨s1, x0, v4, v5, x1, x2, rfl⟩ := p
        have ha : ∀ z : Int, 0 ≤ (if z < 0 then -z else z) := fun z => by
          by_cases q : z < 0
          · rw [if_pos q]; omega
          · rw [if_neg q]; omega
        refine ⟨_, rfl, _, rfl, _, _, rfl, rfl, ⟨by decide, by decide, by decide⟩, _, _, rfl, rfl, _, rfl, ?_⟩
        refine ite2 (fun h3 => ?_) (fun h3 => ?_)
        · refine ⟨_, rfl, _, rfl, _, rfl, (by show 2 ≤ sizeLine; decide), fun p hp => ?_⟩
          exact k p _ ((sq.trans s1).free hp) ((sq.trans s1).trans (put_same hp)) ⟨_, _, upd_same, ha _, x1, x2⟩
        · refine ⟨_, rfl, (by show 2 ≤ sizeLine; decide), fun p hp => ?_⟩
          exact k p _ ((sq.trans s1).free hp) ((sq.trans s1).trans (put_same hp)) ⟨_, _, upd_same, Int.le_refl _, x1, x2⟩
end
end Sc
/-! A law's end where the run at the very top is wanted: nothing is under way above the law. -/
namespace Tp
open PySem PySem.Spec PyProof.Rows L2
section
variable {P : Program} {w : World} {K : PySem.W.Frag} {mg mb : Str → Option Value} {fa a : Addr} {s₁ : Shared} {vs : List Value} {ns : List Int} {H : Hp}
/-- where no entry of a dict is tracked -/
theorem env_top (KX : K.In s₁.heap) (hns : s₁.heap.Ns mainGlobals mg) (hb : s₁.heap.Ns builtinsNs mb) (hbb : ∀ x : Str, x ≠ "__name__" → mb x = bootBuiltins x) (hlim : s₁.heap.NoLimit) (hg : s₁.gens = #[])
    (ha : s₁.heap.get? a = some { cls := .type "list", data := .seq vs.toArray }) (hok : HOk P w H s₁.heap) (only : ∀ b, H b ≠ none → b = a) (hK : H a ≠ none → K.lookup a = none) :
    K.In (hidT s₁.heap H) ∧ (hidT s₁.heap H).Ns mainGlobals mg ∧ Env0 P w K mg (hidT s₁.heap H) callerA [] s₁ H := by
  have notA : ∀ {b : Addr}, b ≠ a → H b = none := fun {b} ne => by
    cases q : H b with
    | none => rfl
    | some u => exact absurd (only b (by rw [q]; exact fun z => nomatch z)) ne
  have dct : ∀ {b : Addr} {m : Str → Option Value}, s₁.heap.Ns b m → (hidT s₁.heap H).Ns b m := fun {b m} n => by
    obtain ⟨o, es, ep, e, d, r⟩ := n
    refine ⟨o, es, ep, hidT_get e (notA fun z => ?_), d, r⟩
    subst z
    rw [ha] at e
    cases e
    cases d
  have inK : K.In (hidT s₁.heap H) := fun b o e => hidT_get (KX b o e) (by
    by_cases z : b = a
    · subst z
      cases q : H b with
      | none => rfl
      | some u =>
        have := hK (by rw [q]; exact fun z => nomatch z)
        rw [this] at e
        cases e
    · exact notA z)
  obtain ⟨mc, l1, l2⟩ := hlim
  exact ⟨inK, dct hns, ⟨rfl, ⟨inK, dct hns, ⟨mb, dct hb, hbb⟩, ⟨mc, dct l1, l2⟩⟩, fun b o e => of_hidT e, Nat.le_of_eq (hidT_size _ _), trivial, fun b z => (by cases z), hok, .of_eq hg⟩⟩
/-- the answer True -/
theorem end_top (only : Only H) (hok : HOk P w H s₁.heap) {r : Result} {s' : Shared} (h : CR C8.CX0 [] P w H s₁ (fun v _ => v = .bl true) (fun _ _ _ => False) r s') :
    r = .ok (.ret (.bool true)) ∧ OldK s₁.heap s'.heap ∧ s'.os = s₁.os ∧ AllBare s'.gens := by
  cases r with
  | error e => exact (show False from h).elim
  | ok fl =>
    cases fl with
    | ret u =>
      obtain ⟨v, H', h1, h2, un, hok', rv, hv⟩ := h
      have hv : v = .bl true := hv
      subst hv
      cases rv
      refine ⟨rfl, OldK.of_keep fun b o e => ?_, h1, h2⟩
      rcases only b with q | ⟨ob, xs, q⟩
      · exact un.keep b o e q (fun z => by cases z) (fun z => by cases z)
      · obtain ⟨g1, _⟩ := hok b _ q
        obtain ⟨g2, _⟩ := hok' b _ (un.frzs b ob _ q)
        rw [e] at g1
        cases g1
        exact g2
    | next => exact (show False from h).elim
    | brk => exact (show False from h).elim
    | cont => exact (show False from h).elim
/-- the run of the law's def at the top, its answer True -/
def TopOk (P : Program) (w : World) (K : PySem.W.Frag) (mg : Str → Option Value) (fa : Addr) (n : Nat) : Prop :=
  ∀ (base : Heap) (s : Shared) (H : Hp) (a : Addr) (ns : List Int), ns.length ≤ n → K.In base → base.Ns mainGlobals mg → Env0 P w K mg base callerA [] s H → SqL K H a (ns.map V.int) →
    codeAny (model P w) callerA (.call (.ref fa) ⟨[.ref a], []⟩) (CR C8.CX0 [] P w H s (fun v _ => v = .bl true) fun _ _ _ => False) s
theorem top_call {n : Nat} (KX : K.In s₁.heap) (hns : s₁.heap.Ns mainGlobals mg) (hb : s₁.heap.Ns builtinsNs mb) (hbb : ∀ x : Str, x ≠ "__name__" → mb x = bootBuiltins x) (hlim : s₁.heap.NoLimit) (hg : s₁.gens = #[])
    (ha : s₁.heap.get? a = some { cls := .type "list", data := .seq vs.toArray }) (hi : IntsAre vs ns) (hl : ns.length ≤ n) (hn : n ≤ sizeLine) (F : TopOk P w K mg fa n) :
    codeAny (model P w) callerA (.call (.ref fa) ⟨[.ref a], []⟩) (fun r s' => r = .ok (.ret (.bool true)) ∧ OldK s₁.heap s'.heap ∧ s'.os = s₁.os ∧ AllBare s'.gens) s₁ := by
  have rv := vals_ints hi
  have sz : vs.length ≤ sizeLine := by rw [hi.length]; omega
  cases hk : K.lookup a with
  | some o =>
    have e := KX a o hk
    rw [ha] at e
    cases e
    have ok0 : HOk P w (fun _ => none) s₁.heap := fun b u z => nomatch (show (none : Option HO) = some u from z)
    obtain ⟨e1, e2, e3⟩ := env_top KX hns hb hbb hlim hg ha ok0 (fun b z => absurd rfl z) (fun z => absurd rfl z)
    refine codeAny_mono (F _ s₁ _ a ns hl e1 e2 e3 (.inr ⟨_, vs.toArray, _, hk, rfl, rfl, rfl, by rw [List.size_toArray]; exact sz, by simpa using rv⟩)) fun r s' h => end_top (fun _ => .inl rfl) ok0 h
  | none =>
    generalize hH : (fun b : Addr => if b = a then some (HO.frz { cls := .type "list", data := .seq vs.toArray } (.lst (ns.map V.int))) else none) = Hf
    have at_ : Hf a = some (.frz { cls := .type "list", data := .seq vs.toArray } (.lst (ns.map V.int))) := by rw [← hH]; exact if_pos rfl
    have off : ∀ b, b ≠ a → Hf b = none := fun b ne => by rw [← hH]; exact if_neg ne
    have ok1 : HOk P w Hf s₁.heap := fun b u z => by
      by_cases q : b = a
      · subst q
        rw [at_] at z
        cases z
        exact ⟨ha, by rw [List.length_map]; omega, vs, _, rv, ha⟩
      · rw [off b q] at z
        cases z
    obtain ⟨e1, e2, e3⟩ := env_top KX hns hb hbb hlim hg ha ok1 (fun b z => Classical.byContradiction fun q => z (off b q)) (fun _ => hk)
    refine codeAny_mono (F _ s₁ _ a ns hl e1 e2 e3 (.inl (.inr ⟨_, at_⟩))) fun r s' h => end_top (fun b => ?_) ok1 h
    by_cases q : b = a
    · subst q
      exact .inr ⟨_, _, at_⟩
    · exact .inl (off b q)
end
theorem walk_top {l : PySem.W.OpenLaw} {n : Nat} {q : Program} {loose : List Str} {XP : (Str → Option Value) → Heap → Prop} {YP : World → Heap → Prop} {d : DefRec} {K : Params → PySem.W.Frag}
    (hn : l.most = some n) (hn2 : n ≤ sizeLine) (hdf : d.params.defaults = []) (hY : ∀ (w : World) (h : Heap), YP w h → (K w.params).In h)
    (F : ∀ (w : World) (mg : Str → Option Value) (fa : Addr) (h : Heap), (K w.params).In h → h.Ns mainGlobals mg → mg d.name = some (.ref fa) → TopOk l.prog w (K w.params) mg fa n) :
    PySem.W.WalkO q loose XP YP l.row.toRowW d [] (fun f vs => PySem.call f vs) := by
  refine Att.attach_call hn hdf fun w s₀ s₁ mg mb fa o pm cd doc a vs ns G Y ho hd hcd hmg hobj hints hlen hg => ?_
  exact top_call (hY w _ Y) G.T.g G.T.b G.T.builtins G.T.nolimit hg hobj hints hlen hn2 (F w mg fa _ (hY w _ Y) G.T.g hmg)
end Tp
/-! Defs that are called where nothing guards a repr, and repr of laid data in them. -/
namespace Gu
open PySem PySem.Spec PyProof.Rows L2
/-- a def's contract where no repr is under way -/
structure FnG (P : Program) (w : World) (K : PySem.W.Frag) (mg : Str → Option Value) (base : Heap) (CX : CXT) (k : Nat) (f : Addr) (fd : FuncData) (ps : List Str) (sp : Sp) : Prop where
  len : ∀ vs H Q E, sp vs H Q E → vs.length = ps.length
  run : ∀ (A : Around) (outer : List Env) (s : Shared) (H : Hp) (args : Args) (us : List Value) (vs : List V) (Q : VK) (E : XK), A.guards = some [] → Room k A → Env0 P w K mg base A outer s H → BindsTo s fd args (ps.zip us) → Vals vs us → sp vs H Q E →
    codeAny (model P w) A (.call (.ref f) args) (CR CX outer P w H s Q E) s
section
variable {P : Program} {w : World} {K : PySem.W.Frag} {mg : Str → Option Value} {base : Heap} {x qual : Str} {st : Stmt} {f : Addr} {fd : FuncData}
theorem ok_g {CX : CXT} {N ps : List Str} {k : Nat} {sp : Sp} (F : Fun K x qual st f fd) (S : FnScope N ps (defScope st)) (len : ∀ vs H Q E, sp vs H Q E → vs.length = ps.length)
    (hbody : ∀ (cdv : Value) (A : Around) (outer : List Env) (s : Shared) (H : Hp) (vs : List V) (Q : VK) (E : XK), A.guards = some [] → Room k (A.deeper (envOfC qual (defScope st) s.heap.objs.size f cdv)) → sp vs H Q E →
      ∃ t, PSs (cxOf CX P w K mg base N qual (defScope st) f cdv A outer s H E) (defBody st) t ∧ t { nx := fun _ H' => Q .non H', rt := Q } (start N vs) H) : FnG P w K mg base CX (k + 1) f fd ps sp := by
  obtain ⟨oc, od, kV, doc, pm, an, cdv, ct, osl, rfl, lk, hcd⟩ := F.ex
  exact ⟨len, fun A outer s H args us vs Q E hg hr e0 hb r hsp => LamX.run_ofS lk hcd S hr e0 hb r (len _ _ _ _ hsp) fun hr' => hbody cdv A outer s H vs Q E hg hr' hsp⟩
end
section
variable {X : Cx} {CX : CXT} {k : Nat} {f : Addr} {fd : FuncData} {ps : List Str} {sp : Sp} {E : XK} {x : Str} {p pos : Pos} {e : Expr} {es : List Expr} {t : TA}
/-- f(e, ..) of such a def -/
theorem pe_callG (F : FnG X.prog X.w X.K X.mg X.base CX k f fd ps sp) (hG : X.A.guards = some []) (hr : Room k X.A) (hg : Gl X x) (hm : X.mg x = some (.ref f)) (hk : PySem.W.keepIn X.K (.ref f) = true) (hb : Binds X.K fd ps []) (hx : Passes CX X E)
    (ha : PA X (e :: es) t) (hdb : (x == ("__debug__" : Str)) = false := by decide) (he : starEach (e :: es) X.env = (false, eval e X.env) :: starEach es X.env := by rfl) (hpl : (backTo pos (starEach es X.env)).any (·.1) = false := by rfl) :
    PE X (.Call (.Name x p) (e :: es) [] pos) (tCall sp [] E t) := by
  constructor
  intro pins s σ H Q I h
  apply wpAny_Call_Name_kw (ld_glob I hg hm ?_ hdb)
  refine PySem.W.callWith_K (h₀ := X.base) I.ok.mod.kin hk (thn (ha.run pos pins s σ H _ I h) fun us s1 q0 => ?_) he hpl
  obtain ⟨vs, H1, I1, r, q⟩ := q0
  rw [List.append_nil] at q
  have hl : us.length = ps.length := by rw [← r.length]; exact F.len _ _ _ _ q
  have bd : BindsTo s1 fd ⟨us, []⟩ (ps.zip us) := by simpa using hb s1 us I1.kIn (by simpa using hl)
  refine ⟨I1.kIn, wpAny_call (codeAny_mono (F.run X.A X.stack s1 H1 ⟨us, []⟩ us vs Q E hG hr I1.env0 bd r q) fun z s' hq => ?_)⟩
  match z, hq with
  | .error e, hq => exact hx pins σ H1 s1 e s' I1 hq
  | .ok (.ret u), hq => exact I1.after hq
  | .ok .next, hq => exact False.elim hq
  | .ok .brk, hq => exact False.elim hq
  | .ok .cont, hq => exact False.elim hq
end
section
variable {X : Cx}
/-- what repr asks of such data -/
def Shows (d : PyData) : Prop := PyData.layable0 d = true ∧ d.showable = true ∧ d.intsShort 13 = true
def rReprD (K : PySem.W.Frag) : List V → Hp → VK → Prop := fun xs H Q => ∃ a d, xs = [.ref a] ∧ Dp K H (.ref a) d ∧ Shows d ∧ Q (.str d.shown) H
theorem call_reprD (hG : X.A.guards = some []) (hr : X.A.units + 65 < cLine) : CallR X (.builtin "repr") (rReprD X.K) := by
  rintro pins s σ H xs us Q I r ⟨a, d, rfl, hd, ⟨h1, h2, h3⟩, q⟩
  obtain ⟨u, rfl, ru⟩ := vals1 r
  obtain rfl : u = Value.ref a := ru
  obtain ⟨as, rd⟩ := Dp.reads I d (.ref a) (.ref a) hd rfl
  refine repr_of_reads' rd h2 (PyData.noDict_hsm (PyData.hasDict_of_layable h1)) hG (room_of_layable h1 hr) (fun _ _ e => e) (fun h' u tk hk => ?_) (Nat.le_trans (shown_le13 h1 h3) (by decide))
  exact ⟨.str d.shown, H, I.kept hk, ⟨_, rfl⟩, q⟩
def rReprB : List V → Hp → VK → Prop := fun xs H Q => ∃ b, xs = [.bl b] ∧ Q (.str (if b then "True" else "False")) H
theorem call_reprB : CallR X (.builtin "repr") rReprB := by
  rintro pins s σ H xs us Q I r ⟨b, rfl, q⟩
  obtain ⟨u, rfl, ru⟩ := vals1 r
  obtain rfl : u = Value.bool b := ru
  exact P.repr_of_bool ⟨.str (if b then "True" else "False"), H, I.tok _, ⟨_, by cases b <;> rfl⟩, q⟩
end
end Gu
/-! Settings as data: what == and repr ask of them. -/
namespace Sc
open PySem L2
structure ItemOk (d : PyData) : Prop where
  lay : PyData.canLay0 d = true
  dep : PyData.depth d ≤ 4
  wt : PyData.weight d ≤ 1000
  sh : d.showable = true
  sho : d.intsShort 13 = true
theorem all_ok : ∀ ds : List PyData, (∀ d ∈ ds, ItemOk d) → PyData.canLayAll0 ds = true ∧ PyData.depthAll ds ≤ 4 ∧ PyData.weightAll ds ≤ 1001 * ds.length ∧ PyData.showableAll ds = true ∧ PyData.intsShortAll 13 ds = true
  | [], _ => ⟨rfl, by rw [PyData.depthAll]; omega, by rw [PyData.weightAll]; omega, rfl, rfl⟩
  | d :: ds, h => by
    obtain ⟨h1, h2, h3, h4, h5⟩ := all_ok ds fun x hx => h x (List.mem_cons_of_mem _ hx)
    have i := h d (List.mem_cons_self ..)
    have e3 := i.wt
    have e2 := i.dep
    refine ⟨?_, ?_, ?_, ?_, ?_⟩
    · rw [PyData.canLayAll0, h1, i.lay]
      rfl
    · rw [PyData.depthAll]
      omega
    · rw [PyData.weightAll, List.length_cons]
      omega
    · rw [PyData.showableAll, h4, i.sh]
      rfl
    · rw [PyData.intsShortAll, h5, i.sho]
      rfl
theorem list_ok {ds : List PyData} (h : ∀ d ∈ ds, ItemOk d) (hl : ds.length ≤ 20) : Gu.Shows (.list ds) ∧ SeqAt.shaped (.list ds) = true := by
  obtain ⟨h1, h2, h3, h4, h5⟩ := all_ok ds h
  have d5 : PyData.depth (.list ds) ≤ 5 := by
    rw [PyData.depth]
    omega
  have w : PyData.weight (.list ds) ≤ 2 ^ 20 := by
    rw [PyData.weight]
    omega
  refine ⟨⟨?_, ?_, ?_⟩, ?_⟩
  · unfold PyData.layable0
    rw [PyData.canLay0, h1, decide_eq_true (show PyData.depth (.list ds) ≤ 64 by omega), decide_eq_true w]
    rfl
  · rw [PyData.showable, h4]
  · rw [PyData.intsShort, h5]
  · unfold SeqAt.shaped
    rw [PyData.canLay0, h1, Bool.true_and]
    exact decide_eq_true (by omega)
theorem int_ok : ∀ n : Nat, n < 64 → PyData.canLay0 (.int n) = true ∧ PyData.depth (.int n) ≤ 4 ∧ PyData.weight (.int n) ≤ 1000 ∧ (PyData.int n).showable = true ∧ (PyData.int n).intsShort 13 = true := by decide +kernel
theorem io_int {i : Int} (h0 : 0 ≤ i) (h1 : i < 64) : ItemOk (.int i) := by
  obtain ⟨n, rfl⟩ := Int.eq_ofNat_of_zero_le h0
  obtain ⟨a, b, c, d, e⟩ := int_ok n (by omega)
  exact ⟨a, b, c, d, e⟩
theorem io_bl (b : Bool) : ItemOk (.bool b) := ⟨rfl, by rw [PyData.depth]; omega, by rw [PyData.weight]; omega, rfl, rfl⟩
theorem io_w (m : Nat) : ItemOk (dW m) := by
  unfold dW ways
  split <;> split <;> split <;> exact ⟨by decide +kernel, by decide +kernel, by decide +kernel, by decide +kernel, by decide +kernel⟩
theorem cp_cases {x : Str} (h : inV (.str x) cpV = true) : x = "none" ∨ x = "ends" ∨ x = "all" := by
  simp [inV, eqV] at h
  rcases h with h | h | h
  · exact .inl h.symm
  · exact .inr (.inl h.symm)
  · exact .inr (.inr h.symm)
theorem pl_cases {x : Str} (h : inV (.str x) plV = true) : x = "first" ∨ x = "best" ∨ x = "worst" ∨ x = "next" ∨ x = "halves" := by
  simp [inV, eqV] at h
  rcases h with h | h | h | h | h
  · exact .inl h.symm
  · exact .inr (.inl h.symm)
  · exact .inr (.inr (.inl h.symm))
  · exact .inr (.inr (.inr (.inl h.symm)))
  · exact .inr (.inr (.inr (.inr h.symm)))
theorem io_cp {x : Str} (h : inV (.str x) cpV = true) : ItemOk (.str x) := by
  rcases cp_cases h with rfl | rfl | rfl <;> exact ⟨by decide +kernel, by decide +kernel, by decide +kernel, by decide +kernel, by decide +kernel⟩
theorem io_pl {x : Str} (h : inV (.str x) plV = true) : ItemOk (.str x) := by
  rcases pl_cases h with rfl | rfl | rfl | rfl | rfl <;> exact ⟨by decide +kernel, by decide +kernel, by decide +kernel, by decide +kernel, by decide +kernel⟩
abbrev ds8 (s : S8) : List PyData := [.str s.copies, .bool s.cached, .int s.batch, .bool s.early, .bool s.drain, .str s.policy, .int s.groups, .int s.tables]
abbrev ds5 (v : B5) : List PyData := [dW v.1, dW v.2.1, dW v.2.2.1, dW v.2.2.2.1, dW v.2.2.2.2]
theorem ok_ds8 {s : S8} (h : s.Ok) : ∀ d ∈ ds8 s, ItemOk d := by
  have i1 := io_cp h.c
  have i2 := io_pl h.p
  have i3 := io_int h.b0 (Int.lt_of_le_of_lt h.b1 (by decide))
  have i4 := io_int (Int.le_trans (by decide) h.g0) (Int.lt_of_le_of_lt h.g1 (by decide))
  have i5 := io_int (Int.le_trans (by decide) h.t0) (Int.lt_of_le_of_lt h.t1 (by decide))
  intro d hd
  simp only [List.mem_cons, List.not_mem_nil, or_false] at hd
  rcases hd with rfl | rfl | rfl | rfl | rfl | rfl | rfl | rfl
  · exact i1
  · exact io_bl _
  · exact i3
  · exact io_bl _
  · exact io_bl _
  · exact i2
  · exact i4
  · exact i5
theorem ok_ds5 (v : B5) : ∀ d ∈ ds5 v, ItemOk d := by
  intro d hd
  simp only [List.mem_cons, List.not_mem_nil, or_false] at hd
  rcases hd with rfl | rfl | rfl | rfl | rfl <;> exact io_w _
theorem io_d5 (v : B5) : ItemOk (.list (ds5 v)) := by
  refine ⟨?_, ?_, ?_, ?_, ?_⟩
  · rw [PyData.canLay0, PyData.canLayAll0, PyData.canLayAll0, PyData.canLayAll0, PyData.canLayAll0, PyData.canLayAll0, PyData.canLayAll0, lay_w, lay_w, lay_w, lay_w, lay_w]
    all_goals rfl
  · rw [PyData.depth, PyData.depthAll, PyData.depthAll, PyData.depthAll, PyData.depthAll, PyData.depthAll, PyData.depthAll, depth_w, depth_w, depth_w, depth_w, depth_w]
    all_goals decide
  · have h1 : ∀ m, PyData.weight (dW m) ≤ 100 := fun m => by
      unfold dW ways
      split <;> split <;> split <;> decide +kernel
    have a := h1 v.1
    have b := h1 v.2.1
    have c := h1 v.2.2.1
    have d := h1 v.2.2.2.1
    have e := h1 v.2.2.2.2
    rw [PyData.weight, PyData.weightAll, PyData.weightAll, PyData.weightAll, PyData.weightAll, PyData.weightAll, PyData.weightAll]
    omega
  · rw [PyData.showable, PyData.showableAll, PyData.showableAll, PyData.showableAll, PyData.showableAll, PyData.showableAll, PyData.showableAll, (io_w _).sh, (io_w _).sh, (io_w _).sh, (io_w _).sh, (io_w _).sh]
    all_goals rfl
  · rw [PyData.intsShort, PyData.intsShortAll, PyData.intsShortAll, PyData.intsShortAll, PyData.intsShortAll, PyData.intsShortAll, PyData.intsShortAll, (io_w _).sho, (io_w _).sho, (io_w _).sho, (io_w _).sho, (io_w _).sho]
    all_goals rfl
theorem eqv5 {v u : B5} (hv : ok5 v) (hu : ok5 u) : PyData.eqv (.list (ds5 v)) (.list (ds5 u)) = decide (v = u) := by
  obtain ⟨v1, v2, v3, v4, v5⟩ := v
  obtain ⟨u1, u2, u3, u4, u5⟩ := u
  obtain ⟨a1, a2, a3, a4, a5⟩ := hv
  obtain ⟨b1, b2, b3, b4, b5⟩ := hu
  rw [PyData.eqv, PyData.eqvAll, PyData.eqvAll, PyData.eqvAll, PyData.eqvAll, PyData.eqvAll, PyData.eqvAll, eqv_w a1 b1, eqv_w a2 b2, eqv_w a3 b3, eqv_w a4 b4, eqv_w a5 b5, Bool.eq_iff_iff]
  simp
theorem eqv9 {s r : S8} {v u : B5} (hv : ok5 v) (hu : ok5 u) : PyData.eqv (.list (ds8 s ++ [.list (ds5 v)])) (.list (ds8 r ++ [.list (ds5 u)])) = decide (s = r ∧ v = u) := by
  obtain ⟨s1, s2, s3, s4, s5, s6, s7, s8⟩ := s
  obtain ⟨r1, r2, r3, r4, r5, r6, r7, r8⟩ := r
  have e := eqv5 hv hu
  simp only [ds8, List.cons_append, List.nil_append, PyData.eqv, PyData.eqvAll] at e ⊢
  rw [e, Bool.eq_iff_iff]
  simp [and_assoc]
end Sc
/-! x in t, t a tuple of data; data that stay as the heap grows. -/
namespace Dd2
open PySem PySem.Spec PyProof.Rows L2
section
variable {X : Cx}
def rInDT (K : PySem.W.Frag) : R2 := fun x y H Q => ∃ d ds, Dp K H x d ∧ Dp K H y (.tuple ds) ∧ SeqAt.shaped d = true ∧ SeqAt.shaped (.tuple ds) = true ∧ Q (.bl (ds.any fun z => PyData.eqv z d)) H
theorem op_inDT (hu : X.A.units + 65 < cLine) : OpR X (compareOp .In) (rInDT X.K) := by
  intro pins s σ H x y v u Q I rx ry h
  obtain ⟨d, ds, hd, he, sd, se, q⟩ := h
  obtain ⟨as, r1⟩ := Dp.reads I d x v hd rx
  obtain ⟨bs, r2⟩ := Dp.reads I (.tuple ds) y u he ry
  exact SeqAt.in_tuple_reads r2 r1 (SeqAt.canLay_of_shaped se) (SeqAt.canLay_of_shaped sd) (room_in_shaped sd hu) ⟨.bl _, H, I, rfl, q⟩
end
section
variable {K : PySem.W.Frag} {H H' : Hp}
theorem sqL_st {a : Addr} {xs : List V} (h : SqL K H a xs) (e : ∀ o, (∀ ys, o ≠ HO.tbl ys) → H a = some o → H' a = some o) : SqL K H' a xs := by
  rcases h with (h | ⟨o, h⟩) | h
  · exact .inl (.inl (e _ (fun _ z => nomatch z) h))
  · exact .inl (.inr ⟨o, e _ (fun _ z => nomatch z) h⟩)
  · exact .inr h
theorem sqT_st {a : Addr} {xs : List V} (h : SqT K H a xs) (e : ∀ o, (∀ ys, o ≠ HO.tbl ys) → H a = some o → H' a = some o) : SqT K H' a xs := by
  rcases h with (h | ⟨o, h⟩) | h
  · exact .inl (.inl (e _ (fun _ z => nomatch z) h))
  · exact .inl (.inr ⟨o, e _ (fun _ z => nomatch z) h⟩)
  · exact .inr h
mutual
/-- data stay where all objects but tables do -/
theorem dp_st (e : ∀ a o, (∀ ys, o ≠ HO.tbl ys) → H a = some o → H' a = some o) : ∀ (d : PyData) (v : V), Dp K H v d → Dp K H' v d
  | .none, _, h => by cases h; exact .non
  | .bool b, _, h => by cases h; exact .bl b
  | .int i, _, h => by cases h; exact .int i
  | .str x, _, h => by cases h; exact .str x
  | .list ds, _, h => by
    cases h with
    | lst h1 h2 => exact .lst (sqL_st h1 (e _)) (dpall_st e ds _ h2)
  | .tuple ds, _, h => by
    cases h with
    | tup h1 h2 => exact .tup (sqT_st h1 (e _)) (dpall_st e ds _ h2)
  | .dict _, _, h => by cases h
theorem dpall_st (e : ∀ a o, (∀ ys, o ≠ HO.tbl ys) → H a = some o → H' a = some o) : ∀ (ds : List PyData) (vs : List V), DpAll K H vs ds → DpAll K H' vs ds
  | [], _, h => by cases h; exact .nil
  | d :: ds, _, h => by
    cases h with
    | cons h1 h2 => exact .cons (dp_st e d _ h1) (dpall_st e ds _ h2)
end
theorem dp_same {d : PyData} {v : V} (h : Dp K H v d) (e : Same H H') : Dp K H' v d := dp_st (fun a o _ z => e a o z) d v h
end
end Dd2
/-! What the checks of books and settings say of any data. -/
namespace Sc
open PySem L2
def tyD : PyData → String
  | .none => "NoneType"
  | .bool _ => "bool"
  | .int _ => "int"
  | .str _ => "str"
  | .list _ => "list"
  | .tuple _ => "tuple"
  | .dict _ => "dict"
theorem tyL {K : PySem.W.Frag} {H : Hp} {a : Addr} {xs : List V} (h : SqL K H a xs) : TyX K H (.ref a) (.type "list") := by
  rcases h with (h | ⟨o, h⟩) | ⟨o, its, n, h1, h2, _⟩
  · exact .base (.lst h)
  · exact .base (.frz h)
  · exact .kList h1 h2
theorem dp_ty {K : PySem.W.Frag} {H : Hp} : ∀ {d : PyData} {x : V}, Dp K H x d → TyX K H x (.type (tyD d))
  | .none, _, h => by cases h; exact .base .non
  | .bool b, _, h => by cases h; exact .base (.bl b)
  | .int i, _, h => by cases h; exact .base (.int i)
  | .str z, _, h => by cases h; exact .base (.str z)
  | .list ds, _, h => by
    cases h with
    | lst h1 _ => exact tyL h1
  | .tuple ds, _, h => by
    cases h with
    | tup h1 _ => exact tyT h1
  | .dict _, _, h => by cases h
def isBoolD : PyData → Bool
  | .bool _ => true
  | _ => false
def isTupD : PyData → Bool
  | .tuple _ => true
  | _ => false
def wholeD (lo hi : Int) : PyData → Bool
  | .int v => decide (lo ≤ v ∧ v ≤ hi)
  | _ => false
theorem isi_bool {K : PySem.W.Frag} : ∀ d : PyData, PySem.W.kitOne K (.type (tyD d)) (.type "bool") = some (isBoolD d)
  | .none => (show PySem.W.kitOne K (.type "NoneType") (.type "bool") = some false from kit_ty (by decide +kernel))
  | .bool _ => (show PySem.W.kitOne K (.type "bool") (.type "bool") = some true from kit_ty (by decide +kernel))
  | .int _ => (show PySem.W.kitOne K (.type "int") (.type "bool") = some false from kit_ty (by decide +kernel))
  | .str _ => (show PySem.W.kitOne K (.type "str") (.type "bool") = some false from kit_ty (by decide +kernel))
  | .list _ => (show PySem.W.kitOne K (.type "list") (.type "bool") = some false from kit_ty (by decide +kernel))
  | .tuple _ => (show PySem.W.kitOne K (.type "tuple") (.type "bool") = some false from kit_ty (by decide +kernel))
  | .dict _ => (show PySem.W.kitOne K (.type "dict") (.type "bool") = some false from kit_ty (by decide +kernel))
theorem isi_tup {K : PySem.W.Frag} : ∀ d : PyData, PySem.W.kitOne K (.type (tyD d)) (.type "tuple") = some (isTupD d)
  | .none => (show PySem.W.kitOne K (.type "NoneType") (.type "tuple") = some false from kit_ty (by decide +kernel))
  | .bool _ => (show PySem.W.kitOne K (.type "bool") (.type "tuple") = some false from kit_ty (by decide +kernel))
  | .int _ => (show PySem.W.kitOne K (.type "int") (.type "tuple") = some false from kit_ty (by decide +kernel))
  | .str _ => (show PySem.W.kitOne K (.type "str") (.type "tuple") = some false from kit_ty (by decide +kernel))
  | .list _ => (show PySem.W.kitOne K (.type "list") (.type "tuple") = some false from kit_ty (by decide +kernel))
  | .tuple _ => (show PySem.W.kitOne K (.type "tuple") (.type "tuple") = some true from kit_ty (by decide +kernel))
  | .dict _ => (show PySem.W.kitOne K (.type "dict") (.type "tuple") = some false from kit_ty (by decide +kernel))
theorem whole_dp {K : PySem.W.Frag} {H : Hp} {Q : VK} {E : XK} {lo hi : Int} : ∀ {d : PyData} {x : V}, Dp K H x d → Q (.bl (wholeD lo hi d)) H → spWhole K [x, .int lo, .int hi] H Q E
  | .none, _, h, q => by cases h; exact ⟨_, lo, hi, rfl, .inr (.inr ⟨_, .base .non, kit_ty (by decide +kernel), q⟩)⟩
  | .bool b, _, h, q => by cases h; exact ⟨_, lo, hi, rfl, .inr (.inl ⟨b, rfl, q⟩)⟩
  | .int i, _, h, q => by cases h; exact ⟨_, lo, hi, rfl, .inl ⟨i, rfl, q⟩⟩
  | .str z, _, h, q => by cases h; exact ⟨_, lo, hi, rfl, .inr (.inr ⟨_, .base (.str z), kit_ty (by decide +kernel), q⟩)⟩
  | .list ds, _, h, q => ⟨_, lo, hi, rfl, .inr (.inr ⟨_, dp_ty h, (show PySem.W.kitOne K (.type "list") (.type "int") = some false from kit_ty (by decide +kernel)), q⟩)⟩
  | .tuple ds, _, h, q => ⟨_, lo, hi, rfl, .inr (.inr ⟨_, dp_ty h, (show PySem.W.kitOne K (.type "tuple") (.type "int") = some false from kit_ty (by decide +kernel)), q⟩)⟩
  | .dict _, _, h, _ => by cases h
/-! ### directions -/
abbrev dirW : List Str := ["to", "from", "both"]
def dirsD : PyData → Bool
  | .tuple ds => PyData.eqv (.tuple ds) (.tuple ((dirW.filter fun w => ds.any fun z => PyData.eqv z (.str w)).map .str))
  | _ => false
theorem eqv_str {z : PyData} {w : Str} (h : PyData.eqv z (.str w) = true) : z = .str w := by
  cases z <;> simp [PyData.eqv] at h
  rw [h]
theorem eqvAll_str : ∀ {ds : List PyData} {ws : List Str}, PyData.eqvAll ds (ws.map .str) = true → ds = ws.map .str
  | [], [], _ => rfl
  | [], w :: ws, h => by simp [PyData.eqvAll] at h
  | d :: ds, [], h => by simp [PyData.eqvAll] at h
  | d :: ds, w :: ws, h => by
    rw [List.map_cons, PyData.eqvAll, Bool.and_eq_true] at h
    rw [eqv_str h.1, eqvAll_str h.2]
    rfl
/-- right directions are those of a mask -/
theorem dirs_mask {d : PyData} (h : dirsD d = true) : ∃ m, m < 8 ∧ d = dW m := by
  cases d with
  | tuple ds =>
    have h' : PyData.eqvAll ds ((dirW.filter fun w => ds.any fun z => PyData.eqv z (.str w)).map .str) = true := by
      have z := h
      rw [dirsD, PyData.eqv] at z
      exact z
    have e := eqvAll_str h'
    generalize (fun w => ds.any fun z => PyData.eqv z (.str w)) = p at e
    have : ∃ m, m < 8 ∧ dirW.filter p = ways m := by
      have l : ∀ (a b c : Bool), ∃ m, m < 8 ∧ (if a then [("to" : Str)] else []) ++ (if b then [("from" : Str)] else []) ++ (if c then [("both" : Str)] else []) = ways m := by
        intro a b c
        cases a <;> cases b <;> cases c
        · exact ⟨0, by decide, by decide +kernel⟩
        · exact ⟨4, by decide, by decide +kernel⟩
        · exact ⟨2, by decide, by decide +kernel⟩
        · exact ⟨6, by decide, by decide +kernel⟩
        · exact ⟨1, by decide, by decide +kernel⟩
        · exact ⟨5, by decide, by decide +kernel⟩
        · exact ⟨3, by decide, by decide +kernel⟩
        · exact ⟨7, by decide, by decide +kernel⟩
      obtain ⟨m, hm, e2⟩ := l (p "to") (p "from") (p "both")
      refine ⟨m, hm, ?_⟩
      rw [← e2]
      cases h1 : p "to" <;> cases h2 : p "from" <;> cases h3 : p "both" <;> simp [dirW, List.filter_cons, h1, h2, h3]
    obtain ⟨m, hm, e2⟩ := this
    exact ⟨m, hm, by rw [e, e2]; rfl⟩
  | _ => simp [dirsD] at h
theorem dirs_w {m : Nat} (h : m < 8) : dirsD (dW m) = true := by
  have : m = 0 ∨ m = 1 ∨ m = 2 ∨ m = 3 ∨ m = 4 ∨ m = 5 ∨ m = 6 ∨ m = 7 := by omega
  rcases this with rfl | rfl | rfl | rfl | rfl | rfl | rfl | rfl <;> decide +kernel
theorem dpall_inv {K : PySem.W.Frag} {H : Hp} : ∀ {ws : List Str} {xs : List V}, DpAll K H xs (ws.map .str) → xs = ws.map V.str
  | [], _, h => by cases h; rfl
  | w :: ws, _, h => by
    cases h with
    | cons h1 h2 =>
      cases h1
      rw [dpall_inv h2]
      rfl
theorem dp_mask {K : PySem.W.Frag} {H : Hp} {x : V} {m : Nat} (h : Dp K H x (dW m)) : ∃ t, x = .ref t ∧ SqT K H t (wv m) := by
  cases h with
  | tup h1 h2 =>
    rw [dpall_inv h2] at h1
    exact ⟨_, rfl, h1⟩
def spDirsD (K : PySem.W.Frag) : Sp := fun vs H Q _ => ∃ (x : V) (d : PyData), vs = [x] ∧ Dp K H x d ∧ SeqAt.shaped d = true ∧ ∀ H', Same H H' → Q (.bl (dirsD d)) H'
theorem io_dir : ∀ w ∈ dirW, ItemOk (.str w) := by
  intro w hw
  simp only [List.mem_cons, List.not_mem_nil, or_false] at hw
  rcases hw with rfl | rfl | rfl <;> exact ⟨by decide +kernel, by decide +kernel, by decide +kernel, by decide +kernel, by decide +kernel⟩
theorem tup_shaped {ds : List PyData} (h : ∀ d ∈ ds, ItemOk d) : SeqAt.shaped (.tuple ds) = true := by
  obtain ⟨h1, h2, _⟩ := all_ok ds h
  unfold SeqAt.shaped
  rw [PyData.canLay0, h1, Bool.true_and, PyData.depth]
  exact decide_eq_true (by omega)
section
variable {P : Program} {w : World} {K : PySem.W.Frag} {mg : Str → Option Value} {base : Heap} {dT wT cT pT : Addr}
theorem ok_dirsD {f : Addr} {fd : FuncData} (F : Fun K "_are_directions" "_are_directions" s__are_directions f fd) (isi : mg "isinstance" = none) (tpl : mg "tuple" = none) (D : DirAt K mg dT wT cT pT) : FnOk P w K mg base CX0 1 f fd ["value"] (spDirsD K) := by
  refine F.ok scDirs (fun vs H Q E h => ?_) (fun cdv A outer s H vs Q E hr h => ?_)
  · obtain ⟨x, d, rfl, _⟩ := h
    rfl
  · obtain ⟨x, d, rfl, hd, sd, k⟩ := h
    have u65 : (A.deeper (PyProof.Rows.envOfC "_are_directions" (defScope s__are_directions) s.heap.objs.size f cdv)).units + 65 < cLine := by have := hr.un; omega
    refine ⟨_, pss_one (ps_ret (pe_and (pe_callB call_isi (by rfl) isi (by decide +kernel) (pa_cons (pv 0) (pa_cons (pe_bltn (v := .ty "tuple") (by rfl) tpl (by decide +kernel) rfl) pa_nil)))
      (pe_one (pe_cmpR (op_eqD hr.units) (pv 0) (pe_callTy call_tuple_of (by rfl) tpl (by decide +kernel) (pa_cons (pe_lc (own := [("word", 1)]) (g := gName 1) rfl scDirs.nd (pi_tup (pe_glob (v := .ref dT) rfl D.dir rfl)) (blkOk_by (N := ["value", "word"]) (sc := defScope s__are_directions) (by decide +kernel))
        (fun _ _ _ _ _ => pg_name (i := 1) scDirs.nd rfl (Or.inl rfl)) (fun _ _ _ _ _ => pts_one (pt_cmpR (r := Dd2.rInDT K) (Dd2.op_inDT u65) (pv 1) (pv 0) (by rfl))) (fun _ _ _ _ _ => pv 1)) pa_nil)) (nomark _))))), ?_⟩
    refine ⟨_, rfl, _, _, .type (tyD d), .type "tuple", isTupD d, rfl, .ty "tuple", dp_ty hd, isi_tup d, _, rfl, ?_⟩
    cases d with
    | tuple ds =>
      let p : Str → Bool := fun w => ds.any fun z => PyData.eqv z (.str w)
      refine iteT ⟨_, rfl, dT, rfl, ⟨_, D.dirs H⟩, fun l nl => lc_tup (K := K) (a := dT) (xs := dirW.map V.str) (fun i H' => Same H H' ∧ H' l = some (.lst (((dirW.take i).filter p).map V.str))) ⟨put_same nl, upd_same⟩ (fun i H' _ _ => D.dirs H') (fun i y H' hy q => ?_) fun H1 q => ?_⟩
      · rw [List.getElem?_map] at hy
        obtain ⟨wd, hw, rfl⟩ := Option.map_eq_some_iff.mp hy
        have wm := List.mem_of_getElem? hw
        have sw : SeqAt.shaped (.str wd) = true := by
          unfold SeqAt.shaped
          rw [(io_dir wd wm).lay, PyData.depth]
          rfl
        refine ⟨rfl, _, rfl, _, rfl, .str wd, ds, .str wd, Dd2.dp_same hd q.1, sw, sd, p wd, rfl, ?_⟩
        have ztl : (some wd).toList = [wd] := rfl
        cases hc : p wd with
        | true =>
          refine iteT ⟨_, rfl, _, q.2, ?_, (fun c o e => ?_), ?_⟩
          · rw [List.length_map]
            refine Nat.lt_of_le_of_lt (List.length_filter_le _ _) (Nat.lt_of_le_of_lt (List.length_take_le' _ _) (show 3 < sizeLine by decide))
          · rw [upd_ne (ne_of_none e nl)]
            exact q.1 _ _ e
          · rw [upd_same, List.take_add_one, hw, List.filter_append, ztl, List.filter_cons, if_pos hc, List.map_append]
            rfl
        | false =>
          refine iteF ⟨q.1, ?_⟩
          rw [q.2, List.take_add_one, hw, List.filter_append, ztl, List.filter_cons, if_neg (by rw [hc]; decide)]
          simp
      · obtain ⟨s1, e1⟩ := q
        rw [List.length_map, List.take_length] at e1
        refine ⟨l, _, rfl, .inl ⟨SqL.of e1, fun u nu => ?_⟩⟩
        have s2 := put_same (o := .tup ((dirW.filter p).map V.str)) nu
        refine ⟨.tuple ds, .tuple ((dirW.filter p).map .str), Dd2.dp_same hd (s1.trans s2), .tup (.inl (.inl upd_same)) (dpall_str _), sd, tup_shaped fun z hz => ?_, k _ (s1.trans s2)⟩
        obtain ⟨w', hw', rfl⟩ := List.mem_map.mp hz
        exact io_dir w' ((List.mem_filter.mp hw').1)
    | none => exact iteF (k _ (Same.refl _))
    | bool _ => exact iteF (k _ (Same.refl _))
    | int _ => exact iteF (k _ (Same.refl _))
    | str _ => exact iteF (k _ (Same.refl _))
    | list _ => exact iteF (k _ (Same.refl _))
    | dict _ => cases hd
end
end Sc
/-! Own exception classes over any built-in error, whose __init__ says super().__init__(..) and then stores one field. -/
namespace Si
open PySem PySem.Spec PyProof.Rows L2 NdefX
/-- what the written part says of such a class -/
structure ExG (K : PySem.W.Frag) (C : Addr) (B nw ni : String) (bm : List Value) : Prop where
  fb : ExcBaseFacts B nw ni bm
  sf : StoreFacts B bm "object.__setattr__" "object"
  kf : PySem.W.KxsFacts B ni
  qq : PySem.W.excInitIn K C bm nw = true
  ov : PySem.W.excOver K C bm = true
  hd : PySem.W.hasDictIn K C = true
  sa : PySem.W.findIn K (.ref C) "__setattr__" = some (some (.builtin "object.__setattr__"))
  exC : PySem.W.subIn K (.ref C) (.type "BaseException") = some true
  tyC : PySem.W.typeIn K (.ref C) = some (.type "type")
  kC : PySem.W.keepIn K (.ref C) = true
  sB : PySem.W.subIn K (.ref C) (.type B) = some true
section
variable {P : Program} {w : World} {A : Around} {R : Result → Shared → Prop} {hp : Heap} {g : Array GenState} {dr : Drawn} {t : Nat} {os : OsState} {K : PySem.W.Frag} {C x : Addr} {B nw ni : String} {bm : List Value} {fv : Array Value} {n : Str} {tk : Tok} {v : Value}
open Builtin Builtin.ObjectAttr in
theorem osa_g (T : ExG K C B nw ni bm) (ht : PySem.W.takerIn K C n = some none) (X : K.In hp) (ex : hp.get? x = some { cls := .ref C, data := .fields fv })
    (k : ∀ h' tk' dx, (∀ b o, b ≠ x → hp.get? b = some o → h'.get? b = some o) → hp.objs.size ≤ dx → dx ≠ x → h'.get? x = some { cls := .ref C, dict := some dx, data := .fields fv } → h'.Ns1 dx (fun y => if y = n then some v else none) → R (.ok (.ret .none)) ⟨h', g, dr, tk', os⟩) :
    codeAny (model P w) A (.call (.builtin "object.__setattr__") ⟨[.ref x, .str n tk, v], []⟩) R ⟨hp, g, dr, t, os⟩ := by
  refine PySem.W.osa_openX (s := ⟨hp, g, dr, t, os⟩) (ox := { cls := .ref C, data := .fields fv }) (od := none) T.sf X ⟨ex, rfl, rfl, trivial⟩ T.ov ht fun b => ?_
  dsimp only
  obtain ⟨cd, hc, hh⟩ := PySem.W.any_some T.hd
  have lc : PySem.W.Looks (model P w) hp (classData C) cd := PySem.W.looks_clsIn X hc
  obtain ⟨_, _, _, _, _, hd, _, _, _, _, _⟩ := cd
  dsimp only at hh
  subst hh
  have xs : x ≠ hp.objs.size := Nat.ne_of_lt (Heap.lt_size ex)
  unfold storeInOwnDict ownDictForStores
  repeat (first | with_reducible refine HandSPX.store_in_new ?_ ?_ | with_reducible refine wpAny_loadPart_at ex ?_ | with_reducible refine lc.at ?_ | wp_step)
  · exact ⟨_, #[], _, (Heap.get?_update_ne _ _ _ _ xs.symm).trans (Heap.get?_push_at rfl rfl), rfl, fun e z => absurd z (by simp), fun _ => rfl⟩
  · intro h' tk' hn hs
    have e1 : (hp.push { cls := .type "dict", data := .dict #[] }).get? x = some { cls := .ref C, data := .fields fv } := Heap.get?_push_of_some _ ex
    refine k h' tk' hp.objs.size (fun b o hb z => (hs.2 b (Nat.ne_of_lt (Heap.lt_size z))).trans ?_) (Nat.le_refl _) xs.symm ((hs.2 x xs).trans (Heap.get?_update_self _ e1 rfl)) hn
    exact (Heap.get?_update_ne _ _ _ _ hb).trans (Heap.get?_push_of_some _ z)
end
section
variable {X : Cx} {pins : List (Addr × Obj)} {σ : L2.St} {H : Hp} {s : Shared} {a C : Addr} {f : Str} {y : V} {u : Value} {Q : Unit → Shared → Prop} {E : Value → Shared → Prop} {A : Around} {B nw ni : String} {bm : List Value}
/-- self.f = y, the first field -/
theorem ost_g (T : ExG X.K C B nw ni bm) (ht : PySem.W.takerIn X.K C f = some none) (I : Inv X pins σ H s) (e : H a = some (exo a C none)) (ry : L2.RelV y u)
    (k : ∀ dx s', H dx = none → dx ≠ a → Inv X pins σ (upd (upd H dx (exd dx [(f, y)])) a (exo a C (some dx))) s' → Q () s') : wpAny (model X.prog X.w) A (setAttr (.ref a) f u) Q E s := by
  obtain ⟨t1, ho⟩ := exo_at I.hok e
  obtain ⟨hp, g, d, t, os⟩ := s
  refine PySem.W.set_plain I.kIn (ox := { cls := .ref C, dict := none, data := .fields #[.ref t1, .none, .none, .none, .bool false, .none] }) (od := none) ⟨ho, rfl, rfl, trivial⟩ T.sa ?_
  refine osa_g T ht I.kIn ho fun h' tk' dx kp dn dne hx hn => ?_
  have fr : H dx = none := I.hok.fresh dn
  have old : ∀ {b : Addr} {o : Obj}, hp.get? b = some o → b ≠ dx := fun {b o} q => Nat.ne_of_lt (Nat.lt_of_lt_of_le (Heap.lt_size q) dn)
  have off : ∀ {b : Addr}, H b = none → b ≠ a := fun {b} z1 z2 => by rw [z2, e] at z1; cases z1
  have U : Un X.fs [] H (upd (upd H dx (exd dx [(f, y)])) a (exo a C (some dx))) hp h' := {
    keep := fun b o z1 z2 _ _ => kp b o (off z2) z1
    slot := fun b o z1 z2 _ _ => ⟨o.slots, kp b o (off z2) z1⟩
    free := fun b o z1 z2 _ => by rw [upd_ne (off z2), upd_ne (old z1), z2]
    there := fun b o z1 _ => if hb : b = a then ⟨_, hb ▸ hx⟩ else ⟨o, kp b o hb z1⟩
    tups := fun b xs z => by rw [upd_ne (at_ne e z exo_tup), upd_ne (ne_of_none z fr), z]
    frzs := fun b o v z => by rw [upd_ne (at_ne e z exo_frz), upd_ne (ne_of_none z fr), z]
    tbls := fun b ps z => ⟨#[], by rw [upd_ne (at_ne e z exo_tbl), upd_ne (ne_of_none z fr), z]; simp⟩ }
  refine k dx _ fr dne (I.un (t' := tk') U fun b o z => ?_)
  by_cases hb : b = a
  · subst hb
    rw [upd_same] at z
    cases z
    exact exo_ok hx
  rw [upd_ne hb] at z
  by_cases hd : b = dx
  · subst hd
    rw [upd_same] at z
    cases z
    exact exd_ok hn (relO_put (fs := []) ry fun g => True.intro)
  rw [upd_ne hd] at z
  refine (I.hok b o z).stay (fun c v hc q => kp c v ?_ q) (fun c hc => ?_) fun c xs hc => ?_
  · exact hc.elim (fun q => q ▸ hb) fun q => at_ne e q exo_own
  · rw [upd_ne (at_ne e hc exo_own), upd_ne (ne_of_none hc fr), hc]
  · rw [upd_ne (at_ne e hc exo_tup), upd_ne (ne_of_none hc fr), hc]
/-- self.f = e -/
def tOsg (K : PySem.W.Frag) (C : Addr) (f : Str) (to te : TE) : TS := fun D σ H => te σ H fun y H1 => to σ H1 fun x H2 => ∃ a : Addr, x = .ref a ∧ H2 a = some (exo a C none) ∧
  ∀ dx, H2 dx = none → dx ≠ a → D.nx σ (upd (upd H2 dx (exd dx [(f, y)])) a (exo a C (some dx)))
theorem ps_osg {o e : Expr} {to te : TE} {p' pos : Pos} (T : ExG X.K C B nw ni bm) (ht : PySem.W.takerIn X.K C f = some none) (ho : PE X o to) (he : PE X e te) (hs : swapsWith e (some (.Attribute o f p')) pos.line X.env = pure false := by rfl) :
    PS X (.Assign [.Attribute o f p'] e pos) (tOsg X.K C f to te) := by
  refine ⟨fun pins s σ H D I h => plainObj_wpAny_Assign_Attribute (thn (he.run pins s σ H _ I h) fun v s1 ⟨y, H1, I1, r1, q1⟩ => thn (ho.run pins s1 σ H1 _ I1 q1) fun u s2 ⟨x, H2, I2, r2, a, ex, ea, q⟩ => ?_) hs⟩
  subst ex
  cases r2
  exact ost_g T ht I2 ea r1 fun dx s' n ne J => ⟨σ, _, J, q dx n ne⟩
end
/-! ### super().__init__(..) -/
/-- what super() wants of the def that runs; x: its first parameter -/
structure Sup (X : Cx) (C : Addr) (x : Str) (ni : String) : Prop where
  gl : Gl X "super"
  mg : X.mg "super" = none
  fr : X.env.kindOf "__class__" = some .free
  cl : ∃ cc oc od sl, X.env.cells.lookup ("__class__" : Str) = some cc ∧ X.K.lookup cc = some ⟨oc, od, .cell (some (.ref C)), sl⟩
  fn : ∃ f oc od fd sl ar, X.env.func = some f ∧ X.K.lookup f = some ⟨oc, od, .func fd, sl⟩ ∧ (fd.params.posonlyargs ++ fd.params.args).head? = some ar ∧ ar.arg = x
  cd : ∃ c oc od vs sl fi tf, X.env.code = .ref c ∧ X.K.lookup c = some ⟨oc, od, .fields vs, sl⟩ ∧ vs[2]? = some (.str fi tf) ∧ ((X.prog.main.file : Str) == fi) = true
  top : (X.prog.main.scope.names.lookup ("super" : Str)).isSome = false
  lc : X.env.kindOf x = some .local
  n0 : X.N[0]? = some x
  mr : PySem.W.mroIn X.K C (.ref C) = some true
  si : PySem.W.ks_superIn X.K C C "__init__" = some (some (.builtin ni))
  op : PySem.W.nsIn X.K cStatics "thirdparty.any" = some none
section
variable {X : Cx} {σ : L2.St} {H : Hp} {s : Shared} {a C : Addr} {x : Str} {B nw ni : String} {bm : List Value} {Qf : Flow → Shared → Prop} {body : List Stmt} {e : Expr} {es : List Expr} {p0 p1 p2 p3 p4 : Pos} {ta : TA} {D : Hp → Prop}
theorem call_mw {A : Around} {E : Value → Shared → Prop} {Q : Value → Shared → Prop} {pins : List (Addr × Obj)} {u : Addr} {us : List Value} (T : ExG X.K C B nw ni bm) (I : Inv X pins σ H s) (ea : H a = some (exo a C none)) (hu : s.heap.get? u = some (PySem.W.kxs_mw ni a)) (hz : us.length ≤ sizeLine)
    (k : ∀ s', Inv X pins σ H s' → Q .none s') : wpAny (model X.prog X.w) A (call (.ref u) us) Q E s := by
  obtain ⟨nm, N', qn, bs, b2, hdct, sn, sub, ab, col, dd, k0, k1, k2, k3, k5, hC, hT⟩ := PySem.W.excInit_of I.kIn T.qq
  obtain ⟨t1, ho⟩ := exo_at I.hok ea
  obtain ⟨hp, g, d, t, os⟩ := s
  refine wpAny_call (codeAny_of_tree (show wpAny _ A.in1 (callAny (.ref u) ⟨us, []⟩) _ _ _ from ?_))
  simp only [callAny]
  refine wpAny_bind (wpAny_load hu ?_)
  simp only [PySem.W.kxs_mw, show (Value.type "method-wrapper" == Value.type "method" || Value.type "method-wrapper" == Value.type "builtin_function_or_method" || Value.type "method-wrapper" == Value.type "method-wrapper") = true by decide, if_true]
  refine PySem.W.KFB.if_so (by decide) (wpAny_bind (PySem.W.check_bound_init T.fb.toExcCallFacts hC ho rfl (wpAny_bind (wpAny_pure (wpAny_pure ?_)))))
  refine ⟨plainId_quiet T.fb.init.plain _, codeAny_builtin T.fb.initEntry ?_⟩
  refine PySem.W.exc_init_tree (cls := .ref C) (t0 := t1) (dv := none) (c2 := .none) (c3 := .none) (b4 := .bool false) ho hz fun h' kp e' _ => ?_
  have J := I.write (t' := t) (x := a) (e := a) (o := exo a C none) (by rw [ea]; exact True.intro) (.inl rfl) kp ⟨_, e'⟩ (exo_ok e')
  have eu : upd H a (exo a C none) = H := by
    funext b
    by_cases hb : b = a
    · rw [hb, upd_same, ea]
    · rw [upd_ne hb]
  rw [eu] at J
  exact k _ J
theorem sup_stmt (S : Sup X C x ni) (T : ExG X.K C B nw ni bm) (ha : PA X (e :: es) ta) (I : Inv X [] σ H s) (h0 : σ[0]? = some (some (.ref a))) (ea : H a = some (exo a C none))
    (hq : ta σ H fun vs H1 => vs.length ≤ 1000 ∧ H1 a = some (exo a C none) ∧ D H1) (k : ∀ s' H1, Inv X [] σ H1 s' → D H1 → Qf .next s') {pl : Sem Bool}
    (hi : interactive X.env = false) (hsw : swapsWith (.Call (.Attribute (.Call (.Name "super" p0) [] [] p1) "__init__" p2) (e :: es) [] p3) none p4.line X.env = pure false)
    (hev : eval (.Call (.Attribute (.Call (.Name "super" p0) [] [] p1) "__init__" p2) (e :: es) [] p3) X.env = (do
      let ov ← attributeBase (.Call (.Name "super" p0) [] [] p1) "__init__" X.env (eval (.Call (.Name "super" p0) [] [] p1) X.env)
      standAt p2.atName
      let (f, first) ← holding [ov] (getMethod ov "__init__" pl)
      callWith p3 f first (backTo p3 (starEach (e :: es) X.env)) []))
    (he : starEach (e :: es) X.env = (false, eval e X.env) :: starEach es X.env) (hpl : (backTo p3 (starEach es X.env)).any (·.1) = false) :
    _root_.PySem.wpAt (model X.prog X.w) X.A (.func body X.env) (exec (.Expr (.Call (.Attribute (.Call (.Name "super" p0) [] [] p1) "__init__" p2) (e :: es) [] p3) p4) X.env) Qf X.xe s := by
  obtain ⟨cc, occ, odc, slc, cl1, cl2⟩ := S.cl
  obtain ⟨f, oc, od, fd, sl, ar, f1, f2, f3, f4⟩ := S.fn
  obtain ⟨c, occ', odc', vs', slc', fi, tf, c1, c2, c3, c4⟩ := S.cd
  obtain ⟨cd, hc⟩ : ∃ cd, PySem.W.clsIn X.K C = some cd := by
    obtain ⟨cd, h1, _⟩ := PySem.W.any_some T.hd
    exact ⟨cd, h1⟩
  have hs2 : PySem.W.alongIn X.K "__init__" ((cd.mro.dropWhile (· != .ref C)).drop 1) = some (some (.builtin ni)) := by
    have z := S.si
    unfold PySem.W.ks_superIn at z
    rw [hc] at z
    exact z
  obtain ⟨oD, hD1, hD2⟩ : ∃ oD, s.heap.get? C = some oD ∧ oD.data = .cls cd := by
    have z := hc
    unfold PySem.W.clsIn at z
    split at z
    · rename_i q1 q2 q3 q4 ho
      cases z
      exact ⟨_, I.kIn _ _ ho, rfl⟩
    · cases z
  obtain ⟨t1, ho⟩ := exo_at I.hok ea
  have hne : a ≠ C := fun z => by
    rw [z, hD1] at ho
    cases ho
    cases hD2
  refine ks_wpAt_Expr_any (ks_wpAt_MethodCall (pl := pl) ?_ hev) hi hsw
  refine ks_wpAt_super_base S.gl S.fr rfl f1 (I.kIn _ _ f2) rfl f3 c1 (I.kIn _ _ c2) rfl c3 c4 S.top ?_
  obtain ⟨mb, b1, b2⟩ := I.mod.blt
  refine PySem.W.ks_loadName_global I.ok.kind S.gl (Calls.loadGlobal_builtin (by rw [I.ok.glob]; exact I.mod.glob.keeps I.bk) S.mg (by rw [I.ok.blt]; exact b1.keeps I.bk) ((b2 "super" (by decide)).trans (by decide +kernel)) ⟨rfl, ?_⟩)
  refine wpAny_loadName_free (v := .ref C) I.ok.kind S.fr cl1 ⟨_, I.kIn _ _ cl2, rfl⟩ ?_
  obtain ⟨m, hn, hl⟩ := I.loc
  obtain ⟨u0, ru, lk⟩ := hl 0 x (.ref a) S.n0 h0 (.inl S.lc)
  cases ru
  rw [f4]
  refine wpAny_loadName_local (v := .ref a) I.ok.kind S.lc hn (lk.elim (fun z => z.2) fun z => by
    have y := S.lc
    rcases z.1 with q | q <;> · rw [q] at y; cases y) ?_
  have X0 := I.kIn
  have hmr : ∀ {h : Heap}, X.K.In h → PySem.W.Looks (model X.prog X.w) h (mroOf (.ref C)) cd.mro := fun {h} k => (PySem.W.looks_clsIn k hc).andThen .now
  refine ks_wpAny_isType_cls hD1 hD2 ⟨rfl, ?_⟩
  obtain ⟨hp, g, d, t, os⟩ := s
  refine ks_wpAny_call_super hD1 hD2 ho rfl (fun c z => by cases z) (PySem.W.looks_mroIn X0 S.mr) fun h' hso kp => ?_
  have I1 : Inv X [] σ H ⟨h', g, d, t, os⟩ := I.kept (t' := t) kp
  have ea1 := kp _ _ ho
  refine PySem.W.kxs_getMethod (l₀ := cd.mro) T.kf hso (PySem.W.looks_opaque I1.kIn S.op) (hmr I1.kIn) rfl I1.kIn hs2 (PySem.W.InstAt.type (ox := { cls := .ref C, dict := none, data := .fields #[.ref t1, .none, .none, .none, .bool false, .none] }) (od := none) ⟨ea1, rfl, rfl, trivial⟩ |>.andThen (PySem.W.looks_subIn I1.kIn T.sB)) hne (by decide) ?_
  have kp2 : ∀ b o, h'.get? b = some o → (h'.push (PySem.W.kxs_mw ni a)).get? b = some o := fun b o z => Heap.get?_push_of_some _ z
  have I2 : Inv X [] σ H ⟨h'.push (PySem.W.kxs_mw ni a), g, d, t + 1, os⟩ := I1.kept (t' := t + 1) kp2
  have hu : (h'.push (PySem.W.kxs_mw ni a)).get? h'.objs.size = some (PySem.W.kxs_mw ni a) := Heap.get?_push_size _ rfl
  have I3 : Inv X [(h'.objs.size, PySem.W.kxs_mw ni a)] σ H ⟨h'.push (PySem.W.kxs_mw ni a), g, d, t + 1, os⟩ := I2.pins_of fun p hp => by
    rw [List.mem_singleton.mp hp]
    exact ⟨hu, I1.hok.fresh (Nat.le_refl _), fun z => absurd I1.lt (by show ¬ X.env.locals < h'.objs.size; rw [← z]; exact Nat.lt_irrefl _), I1.nofs (Nat.le_refl _), fun v z => by cases z⟩
  dsimp only
  rw [he]
  refine PySem.W.kxs_callWith (i := ni) (u := h'.objs.size) (x := a) (by show (false || (backTo p3 (starEach es X.env)).any (·.1)) = false; rw [hpl]; rfl) (Calls.evalArgs_plain ?_)
  have hrun := ha.run p3 [(h'.objs.size, PySem.W.kxs_mw ni a)] _ σ H _ I3 hq
  rw [he] at hrun
  refine wpAny_mono hrun (fun us s1 ⟨vs, H1, I4, r, hz, ea4, q⟩ => ?_) fun _ _ z => z
  have hu4 : s1.heap.get? h'.objs.size = some (PySem.W.kxs_mw ni a) := (I4.pin _ (List.mem_append_right _ List.mem_cons_self)).1
  refine ⟨hu4, ?_⟩
  refine call_mw (us := us) T I4 ea4 hu4 (by rw [← Paired.length r, sizeLine_eq]; omega) fun s' J => k s' H1 (J.pins_of fun p hp => absurd hp (by simp)) q
end
/-! ### the def, and raising -/
section
variable {CX : CXT} {P : Program} {w : World} {K : PySem.W.Frag} {mg : Str → Option Value} {base : Heap} {N ps : List Str} {F : NF} {f C cc : Addr} {k : Nat} {sp : Sp} {B nw ni : String} {bm : List Value} {x : Str} {e : Expr} {es : List Expr} {rest : List Stmt} {p0 p1 p2 p3 p4 : Pos} {pl : Env → Sem Bool}
/-- a def that begins with super().__init__(..) -/
theorem fn_sup {oc oc2 doc pm ct : Value} {od od2 : Option Addr} {sl sl2 : Array (Option Value)} (S : NScope N ps ["__class__"] F.scope) (lk : K.lookup f = some ⟨oc, od, .func (F.fd doc pm ct), sl⟩) (hcd : PySem.W.codeIn K (.ref F.c) F.qual = true)
    (hcl : F.cl = [(("__class__" : Str), cc)]) (lc : K.lookup cc = some ⟨oc2, od2, .cell (some (.ref C)), sl2⟩) (T : ExG K C B nw ni bm) (len : ∀ vs H Q E, sp vs H Q E → vs.length = ps.length)
    (hb : F.body = .Expr (.Call (.Attribute (.Call (.Name "super" p0) [] [] p1) "__init__" p2) (e :: es) [] p3) p4 :: rest)
    (hS : ∀ (A : Around) (outer : List Env) (s : Shared) (H : Hp) (E : XK), Sup (ncx CX P w K mg base N F f A outer s H E) C x ni)
    (hi : ∀ L, interactive (envF F f L) = false) (hsw : ∀ L, swapsWith (.Call (.Attribute (.Call (.Name "super" p0) [] [] p1) "__init__" p2) (e :: es) [] p3) none p4.line (envF F f L) = pure false)
    (hev : ∀ L, eval (.Call (.Attribute (.Call (.Name "super" p0) [] [] p1) "__init__" p2) (e :: es) [] p3) (envF F f L) = (do
      let ov ← attributeBase (.Call (.Name "super" p0) [] [] p1) "__init__" (envF F f L) (eval (.Call (.Name "super" p0) [] [] p1) (envF F f L))
      standAt p2.atName
      let (g, first) ← holding [ov] (getMethod ov "__init__" (pl (envF F f L)))
      callWith p3 g first (backTo p3 (starEach (e :: es) (envF F f L))) []))
    (he : ∀ L, starEach (e :: es) (envF F f L) = (false, eval e (envF F f L)) :: starEach es (envF F f L)) (hpl : ∀ L, (backTo p3 (starEach es (envF F f L))).any (·.1) = false)
    (hbody : ∀ (A : Around) (outer : List Env) (s : Shared) (H : Hp) (vs : List V) (Q : VK) (E : XK), Room k (A.deeper (envF F f s.heap.objs.size)) → sp vs H Q E →
      ∃ a ta tr, (startF N vs [some (.ref C)])[0]? = some (some (.ref a)) ∧ H a = some (exo a C none) ∧ PA (ncx CX P w K mg base N F f A outer s H E) (e :: es) ta ∧ PSs (ncx CX P w K mg base N F f A outer s H E) rest tr ∧
        ta (startF N vs [some (.ref C)]) H fun us H1 => us.length ≤ 1000 ∧ H1 a = some (exo a C none) ∧ tr { nx := fun _ H' => Q .non H', rt := Q } (startF N vs [some (.ref C)]) H1) :
    FnOk P w K mg base CX (k + 1) f (F.fd doc pm ct) ps sp := by
  refine ⟨len, fun A outer s H args us vs Q E hr e0 hbd r hsp => ?_⟩
  have hl := len _ _ _ _ hsp
  have kb : ∀ b o, base.get? b = some o → s.heap.get? b = some o := fun b o z => (e0.bs b o z).1
  have KX : K.In s.heap := e0.mod.kin.keeps kb
  have C0 : CellsAt F.cl ["__class__"] [some (.ref C)] s.heap H := by
    have ic : s.heap.IsCell cc (some (.ref C)) := ⟨_, KX _ _ lc, rfl⟩
    have on : ∀ y c, F.cl.lookup y = some c → y = "__class__" ∧ c = cc := fun y c z => by
      rw [hcl] at z
      by_cases q : y = "__class__"
      · subst q
        exact ⟨rfl, (Option.some.inj z).symm⟩
      · simp [List.lookup, show (y == ("__class__" : Str)) = false by simpa using q] at z
    refine ⟨rfl, fun y c z => ?_, fun y z c h1 h2 => (on _ _ h1).1.trans (on _ _ h2).1.symm, fun i y z => ?_⟩
    · obtain ⟨_, rfl⟩ := on _ _ z
      exact ⟨(e0.bs _ _ (e0.mod.kin _ _ lc)).2, _, ic⟩
    · match i, z with
      | 0, z =>
        cases z
        refine ⟨cc, by rw [hcl]; rfl, fun v q => ?_⟩
        cases q
        exact ⟨.ref C, rfl, ic⟩
      | i + 1, z => simp at z
  refine ks_codeAny_call_defAt (fd := F.fd doc pm ct) (body := F.body) hr.depth (KX _ _ lk) rfl (e0.mod.nolimit.keeps kb) (PySem.W.codeRec_of KX hcd) rfl hbd S.nocell (fun ⟨n, _⟩ hy => S.par n (List.of_mem_zip hy).1) (fun h₁ hns kp => ?_) S.co S.gen S.kind
  show _root_.PySem.wpAt _ (A.deeper (envF F f s.heap.objs.size)) (.func F.body (envF F f s.heap.objs.size)) (execs F.body (envF F f s.heap.objs.size)) _ _ _
  obtain ⟨a, ta, tr, h0, ea, ha, ht, hq⟩ := hbody A outer s H vs Q E (hr.deeper _) hsp
  have I : Inv (ncx CX P w K mg base N F f A outer s H E) [] (startF N vs [some (.ref C)]) H { s with heap := h₁, toks := s.toks + (ps.zip us).length } := inv_startN S hr.hd e0 hl r C0 hns kp
  have bd : ∀ b, _root_.PySem.wpAt (model P w) (A.deeper (envF F f s.heap.objs.size)) (.func b (envF F f s.heap.objs.size)) (execs F.body (envF F f s.heap.objs.size)) (fun fl s' => CR CX outer P w H s Q E (.ok (.ret (match fl with | .ret v => v | _ => .none))) s')
      (fun e s' => wpAny (model P w) (A.deeper (envF F f s.heap.objs.size)) (leaving (envF F f s.heap.objs.size) e) (fun _ s'' => CR CX outer P w H s Q E (.error e) s'') (fun e' s'' => CR CX outer P w H s Q E (.error e') s'') s') { s with heap := h₁, toks := s.toks + (ps.zip us).length } := fun b => by
    rw [hb]
    refine ks_wpAt_execs_cons (sup_stmt (D := fun H1 => tr { nx := fun _ H' => Q .non H', rt := Q } (startF N vs [some (.ref C)]) H1) (hS A outer s H E) T ha I h0 ea hq (fun s1 H1 J q => ?_) (pl := pl _) (hi _) (hsw _) (hev _) (he _) (hpl _))
    refine wpAt_of_wpAny (wpAny_mono (ht.run [] s1 _ H1 _ J q) (fun fl s' hs => ?_) fun _ _ z => z)
    have fin : ∀ {σ' : L2.St} {H' : Hp} {v : V} {u : Value}, Inv (ncx CX P w K mg base N F f A outer s H E) [] σ' H' s' → L2.RelV v u → Q v H' → CE outer P w H s Q u s' := fun {σ' H' v u} J rv q => ⟨v, H', J.os, J.bare, J.base, J.hok, rv, q⟩
    cases fl with
    | ret u => obtain ⟨v, σ', H', J, rv, q⟩ := hs; exact fin J rv q
    | next => obtain ⟨σ', H', J, q⟩ := hs; exact fin (v := V.non) (u := Value.none) J rfl q
    | brk => obtain ⟨_, _, _, q⟩ := hs; exact False.elim q
    | cont => obtain ⟨_, _, _, q⟩ := hs; exact False.elim q
  exact bd F.body
end
section
variable {X : Cx} {CX : CXT} {x : Str} {C fI : Addr} {k : Nat} {fd : FuncData} {ps : List Str} {sp : Sp} {B nw ni : String} {bm : List Value} {e : Expr} {es : List Expr} {p pos : Pos} {ta : TA}
/-- C(e, ..), its own __init__ keeping sp -/
theorem pmk_g (T : ExG X.K C B nw ni bm) (iC : PySem.W.findIn X.K (.ref C) "__init__" = some (some (.ref fI))) (tI : PySem.W.typeIn X.K (.ref fI) = some (.type "function")) (F1 : FnOk X.prog X.w X.K X.mg X.base CX k fI fd ps sp) (hr : Room (k + 1) X.A) (hb : Binds X.K fd ps [])
    (hx : Passes CX X (fun _ _ _ => False)) (hg : Gl X x) (hm : X.mg x = some (.ref C)) (ha : PA X (e :: es) ta) (hdb : (x == ("__debug__" : Str)) = false := by decide) (he : starEach (e :: es) X.env = (false, eval e X.env) :: starEach es X.env := by rfl)
    (hpl : (backTo pos (starEach es X.env)).any (·.1) = false := by rfl) : PMk X (.Call (.Name x p) (e :: es) [] pos) (tMkO C sp [] ta) := by
  intro pins s σ H Q I h
  refine wpAny_Call_Name_kw (ld_glob I hg hm ?_ hdb)
  refine PySem.W.callWith_K (h₀ := X.base) I.ok.mod.kin T.kC (thn (ha.run pos pins s σ H _ I h) fun us s1 ⟨vs, H1, I1, r1, hz, q1⟩ => ⟨I1.kIn, ?_⟩) he hpl
  show wpAny _ _ (call (.ref C) us) _ _ _
  obtain ⟨nm, N', qn, bs, b2, hdct, sn, sub, ab, col, dd, k0, k1, k2, k3, k5, hC, hT⟩ := PySem.W.excInit_of I1.kIn T.qq
  obtain ⟨hp, g, dr, tk, os⟩ := s1
  have le1 : hp.objs.size ≤ hp.objs.size + 1 := Nat.le_succ _
  have hq := q1 (hp.objs.size + 1) (I1.hok.fresh le1)
  have kk : ∀ b o, hp.get? b = some o → ((hp.push (PySem.W.kdv_tup us)).push (HandSPX.excO C hp.objs.size)).get? b = some o := fun b o z => Heap.get?_push_of_some _ (Heap.get?_push_of_some _ z)
  have gt : ((hp.push (PySem.W.kdv_tup us)).push (HandSPX.excO C hp.objs.size)).get? (hp.objs.size + 1) = some (HandSPX.excO C hp.objs.size) := by heap_get
  have I2 : Inv X pins σ (upd H1 (hp.objs.size + 1) (exo (hp.objs.size + 1) C none)) ⟨(hp.push (PySem.W.kdv_tup us)).push (HandSPX.excO C hp.objs.size), g, dr, tk, os⟩ := I1.laid (t' := tk) kk le1 (exo_ok gt)
  have r2 : Vals (V.ref (hp.objs.size + 1) :: (vs ++ [])) (Value.ref (hp.objs.size + 1) :: us) := by rw [List.append_nil]; exact .cons rfl r1
  have hl : (Value.ref (hp.objs.size + 1) :: us).length = ps.length := by
    rw [← r2.length]
    exact F1.len _ _ _ _ hq
  refine wpAny_call (HandSPX.call_own T.fb hT hC (PySem.W.looks_findIn I1.kIn iC) (fun self => PySem.W.bind_fn I1.kIn self tI) (by rw [← Paired.length r1, sizeLine_eq]; omega)
    (codeAny_mono (F1.run _ X.stack _ _ ⟨Value.ref (hp.objs.size + 1) :: us, []⟩ _ _ _ (fun _ _ _ => False) (hr.make C us []) (I2.env0.make C us []) (by
      have z := hb ⟨(hp.push (PySem.W.kdv_tup us)).push (HandSPX.excO C hp.objs.size), g, dr, tk, os⟩ (Value.ref (hp.objs.size + 1) :: us) I2.kIn (by simpa using hl)
      simpa using z) r2 hq) fun r s' hq' => ?_))
  cases r with
  | error er => exact hx pins σ _ _ er s' I2 hq'
  | ok fl =>
    cases fl with
    | ret u =>
      obtain ⟨v, H2, os2, bare2, un2, hok2, rv, rfl, d, fs, ea, ed, hd1, q2⟩ := hq'
      obtain ⟨h2, g2, d2, t2, os'⟩ := s'
      exact ⟨rv, mk_end (raises_own T.exC T.tyC) I1 le1 kk un2 hok2 os2 bare2 ea ed hd1 q2⟩
    | next => exact False.elim hq'
    | brk => exact False.elim hq'
    | cont => exact False.elim hq'
end
end Si
namespace Sc
open PySem L2 NdefX
abbrev veTail : List Value := [.type "ValueError", .type "Exception", .type "BaseException", .type "object"]
abbrev nfBS (cc cda : Addr) : NF := NF.of s_BadSetting___init__ "__init__" "BadSetting.__init__" [(("__class__" : Str), cc)] cda
/-- what the walk asks of BadSetting -/
structure TE' (P : Program) (K : PySem.W.Frag) (mg : Str → Option Value) (CE f cc cda : Addr) (doc pm ct : Value) : Prop where
  g : Si.ExG K CE "ValueError" "ValueError.__new__" "ValueError.__init__" veTail
  lk : ∃ oc od sl, K.lookup f = some ⟨oc, od, .func ((nfBS cc cda).fd doc pm ct), sl⟩
  hcd : PySem.W.codeIn K (.ref cda) "BadSetting.__init__" = true
  lc : ∃ oc od sl, K.lookup cc = some ⟨oc, od, .cell (some (.ref CE)), sl⟩
  cd : ∃ oc od vs sl fi tf, K.lookup cda = some ⟨oc, od, .fields vs, sl⟩ ∧ vs[2]? = some (.str fi tf) ∧ ((P.main.file : Str) == fi) = true
  top : (P.main.scope.names.lookup ("super" : Str)).isSome = false
  su : mg "super" = none
  mr : PySem.W.mroIn K CE (.ref CE) = some true
  si : PySem.W.ks_superIn K CE CE "__init__" = some (some (.builtin "ValueError.__init__"))
  op : PySem.W.nsIn K cStatics "thirdparty.any" = some none
  tk : PySem.W.takerIn K CE "field" = some none
  iC : PySem.W.findIn K (.ref CE) "__init__" = some (some (.ref f))
  tI : PySem.W.typeIn K (.ref f) = some (.type "function")
  mgN : mg "BadSetting" = some (.ref CE)
  sP : PySem.W.subIn K (.ref CE) (.ref CE) = some true
  ga : PySem.W.findIn K (.ref CE) "__getattribute__" = some (some (.builtin "BaseException.__getattribute__"))
  gg : PySem.W.findIn K (.ref CE) "__getattr__" = some none
  nfield : PySem.W.findIn K (.ref CE) "field" = some none
def spBS (CE : Addr) : Sp := fun vs H Q _ => ∃ (a : Addr) (m : Str), vs = [.ref a, .str m] ∧ H a = some (exo a CE none) ∧ m.length ≤ 1000 ∧ ∀ dx, H dx = none → dx ≠ a → Q .non (upd (upd H dx (exd dx [(("field" : Str), .str m)])) a (exo a CE (some dx)))
section
variable {P : Program} {w : World} {K : PySem.W.Frag} {mg : Str → Option Value} {base : Heap} {CE f cc cda : Addr} {doc pm ct : Value}
theorem scBS : NScope ["self", "field", "__class__"] ["self", "field"] ["__class__"] (nfBS cc cda).scope := nscope_by (show nscB _ _ _ (C8.fnScope s_BadSetting___init__) = true by decide +kernel)
theorem ok_bads (T : TE' P K mg CE f cc cda doc pm ct) : FnOk P w K mg base CX0 1 f ((nfBS cc cda).fd doc pm ct) ["self", "field"] (spBS CE) := by
  obtain ⟨oc, od, sl, lk⟩ := T.lk
  obtain ⟨oc2, od2, sl2, lc⟩ := T.lc
  refine Si.fn_sup (N := ["self", "field", "__class__"]) (C := CE) (x := "self") (pl := fun env => _) scBS lk T.hcd rfl lc T.g (fun vs H Q E h => ?_) rfl (fun A outer s H E => ⟨rfl, T.su, rfl, ⟨cc, oc2, od2, sl2, rfl, lc⟩, ⟨f, oc, od, _, sl, _, rfl, lk, rfl, rfl⟩, ?_, T.top, rfl, rfl, T.mr, T.si, T.op⟩) (fun L => rfl) (fun L => rfl) (fun L => rfl) (fun L => rfl) (fun L => rfl) (fun A outer s H vs Q E hr h => ?_)
  · obtain ⟨a, m, rfl, _⟩ := h
    rfl
  · obtain ⟨q1, q2, q3, q4, q5, q6, q7, q8, q9⟩ := T.cd
    exact ⟨cda, q1, q2, q3, q4, q5, q6, rfl, q7, q8, q9⟩
  · obtain ⟨a, m, rfl, ea, m1, k⟩ := h
    refine ⟨a, _, _, rfl, ea, pa_cons (pe_joined (.cons pe_str (.cons (pe_fmt (pv 1)) .nil))) pa_nil, pss_one (Si.ps_osg T.g T.tk (pv 0) (pv 1)), ?_⟩
    have small : ∀ {n : Nat}, n ≤ 2000 → n ≤ sizeLine := fun h => Nat.le_trans h (by decide)
    have n1 : ((Str.empty ++ "a wrong value for " : Str)).length = 18 := by decide +kernel
    refine ⟨_, rfl, small (by rw [n1]; omega), _, rfl, .inl ⟨m, rfl, small (by omega), _, rfl, small ?_, ?_⟩⟩
    · rw [strLen_append, n1]; omega
    exact ⟨(by show 1 ≤ 1000; decide), ea, _, rfl, _, rfl, a, rfl, ea, fun dx h1 h2 => k dx h1 h2⟩
end
end Sc
/-! _check that raises. -/
namespace Sc
open PySem L2 NdefX
def firstBad (xs : List (Str × Bool)) : Option Str := (xs.find? fun x => !x.2).map (·.1)
/-- BadSetting leaves, with this field -/
def BadF (CE : Addr) (n : Str) (H : Hp) (E : XK) : Prop := ∀ H' dd, Same H H' → H dd = none → H' dd = some (.xd [(("field" : Str), .str n)]) → E (.ref CE) (some dd) H'
theorem BadF.of {CE : Addr} {n : Str} {H H1 : Hp} {E : XK} (h : BadF CE n H E) (k : Same H H1) : BadF CE n H1 E := fun H' dd s nd e => h H' dd (k.trans s) (k.free nd) e
def spCheckR (CE : Addr) : Sp := fun vs H Q E => ∃ (l : Addr) (ps : List Addr) (xs : List (Str × Bool)), vs = [.ref l] ∧ H l = some (.lst (ps.map V.ref)) ∧ Paired (fun (t : Addr) (x : Str × Bool) => H t = some (.tup [.str x.1, .bl x.2])) ps xs ∧ (∀ x ∈ xs, x.1.length ≤ 1000) ∧ (firstBad xs = none → Q .non H) ∧ ∀ n, firstBad xs = some n → BadF CE n H E
theorem bads_heap {H1 : Hp} {a dx CE : Addr} {m : Str} (ha : H1 a = none) (hd : H1 dx = none) (ne : dx ≠ a) : Same H1 (upd (L2.del (upd (upd (upd H1 a (exo a CE none)) dx (exd dx [(("field" : Str), .str m)])) a (exo a CE (some dx))) a) dx (.xd [(("field" : Str), .str m)])) := fun q o e => by
  have q1 : q ≠ a := fun z => by rw [z, ha] at e; cases e
  have q2 : q ≠ dx := fun z => by rw [z, hd] at e; cases e
  rw [upd_ne q2, del_ne q1, upd_ne q1, upd_ne q2, upd_ne q1]
  exact e
theorem raise_bads {CE : Addr} {σ : L2.St} {H : Hp} {E : XK} {m : Str} (m1 : m.length ≤ 1000) (i : Nat) (hi : σ[i]? = some (some (.str m))) (g : BadF CE m H E) :
    tMkO CE (spBS CE) [] (tCons (tVar i) tNil) σ H (fun cls d H' => E cls d H') := by
  refine ⟨_, hi, (by show 1 ≤ 1000; decide), fun a na => ⟨a, m, rfl, upd_same, m1, fun dx ndx ne => ?_⟩⟩
  have hd : H dx = none := by rw [upd_ne ne] at ndx; exact ndx
  refine ⟨rfl, dx, _, upd_same, by rw [upd_ne ne, upd_same], hd, ?_⟩
  exact g _ dx (bads_heap na hd ne) hd upd_same
section
variable {P : Program} {w : World} {K : PySem.W.Frag} {mg : Str → Option Value} {base : Heap} {CE fE cc cda : Addr} {doc pm ct : Value}
theorem ok_checkR {f : Addr} {fd : FuncData} (F : Fun K "_check" "_check" s__check f fd) (N : TE' P K mg CE fE cc cda doc pm ct) (bN : Binds K ((nfBS cc cda).fd doc pm ct) ["self", "field"] []) : FnOk P w K mg base (L2.CX P w) 3 f fd ["fields"] (spCheckR CE) := by
  refine F.okX scCheck (fun vs H Q E h => ?_) (fun cdv A outer s H vs Q E hr h => ?_)
  · obtain ⟨l, ps, xs, rfl, _⟩ := h
    rfl
  · obtain ⟨l, ps, xs, rfl, hl, hp, hn, k1, k2⟩ := h
    have hr2 : Room 2 _ := hr
    refine ⟨_, pss_one (ps_for (passes_of rfl) rfl (pi_list (pv 0)) (pg_tup rfl (pgs_cons (pg_name (i := 1) scCheck.nd rfl (Or.inl rfl)) (pgs_cons (pg_name (i := 2) scCheck.nd rfl (Or.inl rfl)) pgs_nil)))
      (pss_one (ps_if (pt_not (pt_val (pv 2))) (pss_one (ps_raise rfl (takes_of rfl rfl rfl rfl) (Si.pmk_g N.g N.iC N.tI (ok_bads N) hr2 bN pass0 (by rfl) N.mgN (pa_cons (pv 1) pa_nil)))) pss_nil))), ?_⟩
    refine ⟨_, rfl, l, rfl, ⟨_, SqL.of hl⟩, for_list (K := K) (a := l) (xs := ps.map V.ref) (fun i σ H' => H' = H ∧ (xs.take i).find? (fun x => !x.2) = none ∧ ∃ v1 v2 : Option V, σ = [some (.ref l), v1, v2]) ⟨rfl, rfl, none, none, rfl⟩ (fun i σ H' hi z => by rw [z.1]; exact SqL.of hl) (fun i x σ H' hx z => ?_) fun σ H' z => ?_⟩
    · obtain ⟨rfl, z2, v1, v2, rfl⟩ := z
      rw [List.getElem?_map] at hx
      obtain ⟨t, ht, rfl⟩ := Option.map_eq_some_iff.mp hx
      have il : i < xs.length := by
        have := paired_len hp
        have := (List.getElem?_eq_some_iff.mp ht).1
        omega
      have ex : xs[i]? = some xs[i] := List.getElem?_eq_getElem il
      have et := paired_ith hp ht ex
      refine ⟨t, _, rfl, .inl (.inl et), rfl, _, _, rfl, _, _, rfl, rfl, _, rfl, xs[i].2, rfl, ?_⟩
      cases hb : xs[i].2 with
      | true =>
        refine iteF ⟨rfl, ?_, _, _, rfl⟩
        rw [List.take_add_one, ex, List.find?_append, z2]
        simp [hb]
      | false =>
        refine iteT (raise_bads (hn _ (List.getElem_mem il)) 1 rfl (k2 _ ?_))
        have h := congrArg (List.find? fun x : Str × Bool => !x.2) (List.take_append_drop i xs)
        rw [List.find?_append, z2, List.drop_eq_getElem_cons il, List.find?_cons_of_pos (by rw [hb]; rfl)] at h
        unfold firstBad
        rw [← h]
        rfl
    · obtain ⟨rfl, z2, _⟩ := z
      refine k1 ?_
      rw [List.length_map, paired_len hp, List.take_length] at z2
      unfold firstBad
      rw [z2]
      rfl
end
end Sc
/-! A book made of any data. -/
namespace Sc
open PySem L2 NdefX
def rows5 (d1 d2 d3 d4 d5 : PyData) : List (Str × Bool) := [("cleaned", dirsD d1), ("dropped", dirsD d2), ("bind_copied", dirsD d3), ("give_copied", dirsD d4), ("take_copied", dirsD d5)]
def spBInitR (K : PySem.W.Frag) (CE CB : Addr) : Sp := fun vs H Q E => ∃ (p dx : Addr) (x1 x2 x3 x4 x5 : V) (d1 d2 d3 d4 d5 : PyData), vs = [.ref p, x1, x2, x3, x4, x5] ∧ H p = some (.ins CB dx []) ∧ (Dp K H x1 d1 ∧ SeqAt.shaped d1 = true) ∧ (Dp K H x2 d2 ∧ SeqAt.shaped d2 = true) ∧ (Dp K H x3 d3 ∧ SeqAt.shaped d3 = true) ∧ (Dp K H x4 d4 ∧ SeqAt.shaped d4 = true) ∧ (Dp K H x5 d5 ∧ SeqAt.shaped d5 = true) ∧
  (∀ n, firstBad (rows5 d1 d2 d3 d4 d5) = some n → BadF CE n H E) ∧ ∀ v : B5, ok5 v → d1 = dW v.1 → d2 = dW v.2.1 → d3 = dW v.2.2.1 → d4 = dW v.2.2.2.1 → d5 = dW v.2.2.2.2 → ∀ H', (∀ q o, q ≠ p → H q = some o → H' q = some o) → BookAt K CB H' p v → Q .non H'
theorem rows5_ok {d1 d2 d3 d4 d5 : PyData} (h : firstBad (rows5 d1 d2 d3 d4 d5) = none) : dirsD d1 = true ∧ dirsD d2 = true ∧ dirsD d3 = true ∧ dirsD d4 = true ∧ dirsD d5 = true := by
  unfold firstBad rows5 at h
  simpa [List.find?_eq_none] using h
section
variable {P : Program} {w : World} {K : PySem.W.Frag} {mg : Str → Option Value} {base : Heap} {CB CE : Addr}
theorem ok_binitR {f fD fC : Addr} {fd fdD fdC : FuncData} {kws : List (Str × V)} (F : FunD K "__init__" "Book.__init__" (defArgs s_Book___init__) (defBody s_Book___init__) (defScope s_Book___init__) [] kws f fd) (T : TBk K mg CB)
    (GD : FnOk P w K mg base CX0 1 fD fdD ["value"] (spDirsD K)) (DD : Def K mg "_are_directions" fD fdD ["value"]) (GC : FnOk P w K mg base (L2.CX P w) 3 fC fdC ["fields"] (spCheckR CE)) (DC : Def K mg "_check" fC fdC ["fields"]) : FnOk P w K mg base (L2.CX P w) 4 f fd ["self", "cleaned", "dropped", "bind_copied", "give_copied", "take_copied"] (spBInitR K CE CB) := by
  refine F.ok scBInit (fun vs H Q E h => ?_) (fun cdv A outer s H vs Q E hr h => ?_)
  · obtain ⟨p, dx, x1, x2, x3, x4, x5, d1, d2, d3, d4, d5, rfl, _⟩ := h
    rfl
  · obtain ⟨p, dx, x1, x2, x3, x4, x5, d1, d2, d3, d4, d5, rfl, hp, h1, h2, h3, h4, h5, kb, k⟩ := h
    refine ⟨_, pss_cons (ps_expr (pe_call (E := E) GC hr (by rfl) DC.at_ DC.kp DC.bd .nil (passes_call (takes_of rfl rfl rfl rfl) fun _ _ _ _ z => z) (pa_cons (pe_lst (pa_cons (pe_tup (pa_cons pe_str (pa_cons (pe_call GD (hr.mono (by decide)) (by rfl) DD.at_ DD.kp DD.bd .nil pass0 (pa_cons (pv 1) pa_nil)) pa_nil))) (pa_cons (pe_tup (pa_cons pe_str (pa_cons (pe_call GD (hr.mono (by decide)) (by rfl) DD.at_ DD.kp DD.bd .nil pass0 (pa_cons (pv 2) pa_nil)) pa_nil))) (pa_cons (pe_tup (pa_cons pe_str (pa_cons (pe_call GD (hr.mono (by decide)) (by rfl) DD.at_ DD.kp DD.bd .nil pass0 (pa_cons (pv 3) pa_nil)) pa_nil))) (pa_cons (pe_tup (pa_cons pe_str (pa_cons (pe_call GD (hr.mono (by decide)) (by rfl) DD.at_ DD.kp DD.bd .nil pass0 (pa_cons (pv 4) pa_nil)) pa_nil))) (pa_cons (pe_tup (pa_cons pe_str (pa_cons (pe_call GD (hr.mono (by decide)) (by rfl) DD.at_ DD.kp DD.bd .nil pass0 (pa_cons (pv 5) pa_nil)) pa_nil))) pa_nil)))))) pa_nil)))
      (pss_cons (ps_fld (pv 0) (pv 1) rfl) (pss_cons (ps_fld (pv 0) (pv 2) rfl) (pss_cons (ps_fld (pv 0) (pv 3) rfl) (pss_cons (ps_fld (pv 0) (pv 4) rfl) (pss_one (ps_fld (pv 0) (pv 5) rfl)))))), ?_⟩
    refine ⟨_, rfl, x1, d1, rfl, h1.1, h1.2, fun A1 sa1 => ⟨(by show 2 ≤ sizeLine; decide), fun u1 nu1 => ?_⟩⟩
    have su1 := put_same (o := .tup [.str "cleaned", .bl (dirsD d1)]) nu1
    have k1 := sa1.trans su1
    refine ⟨_, rfl, x2, d2, rfl, (Dd2.dp_same h2.1 k1), h2.2, fun A2 sa2 => ⟨(by show 2 ≤ sizeLine; decide), fun u2 nu2 => ?_⟩⟩
    have su2 := put_same (o := .tup [.str "dropped", .bl (dirsD d2)]) nu2
    have g2 := sa2.trans su2
    have k2 := k1.trans g2
    refine ⟨_, rfl, x3, d3, rfl, (Dd2.dp_same h3.1 k2), h3.2, fun A3 sa3 => ⟨(by show 2 ≤ sizeLine; decide), fun u3 nu3 => ?_⟩⟩
    have su3 := put_same (o := .tup [.str "bind_copied", .bl (dirsD d3)]) nu3
    have g3 := sa3.trans su3
    have k3 := k2.trans g3
    refine ⟨_, rfl, x4, d4, rfl, (Dd2.dp_same h4.1 k3), h4.2, fun A4 sa4 => ⟨(by show 2 ≤ sizeLine; decide), fun u4 nu4 => ?_⟩⟩
    have su4 := put_same (o := .tup [.str "give_copied", .bl (dirsD d4)]) nu4
    have g4 := sa4.trans su4
    have k4 := k3.trans g4
    refine ⟨_, rfl, x5, d5, rfl, (Dd2.dp_same h5.1 k4), h5.2, fun A5 sa5 => ⟨(by show 2 ≤ sizeLine; decide), fun u5 nu5 => ?_⟩⟩
    have su5 := put_same (o := .tup [.str "take_copied", .bl (dirsD d5)]) nu5
    have g5 := sa5.trans su5
    have k5 := k4.trans g5
    refine ⟨(by show 5 ≤ sizeLine; decide), fun l nl => ?_⟩
    have sl := put_same (o := .lst [.ref u1, .ref u2, .ref u3, .ref u4, .ref u5]) nl
    have kl := k5.trans sl
    refine ⟨l, [u1, u2, u3, u4, u5], rows5 d1 d2 d3 d4 d5, rfl, upd_same, .cons (sl _ _ (g5 _ _ (g4 _ _ (g3 _ _ (g2 _ _ upd_same))))) (.cons (sl _ _ (g5 _ _ (g4 _ _ (g3 _ _ upd_same)))) (.cons (sl _ _ (g5 _ _ (g4 _ _ upd_same))) (.cons (sl _ _ (g5 _ _ upd_same)) (.cons (sl _ _ upd_same) .nil)))), ?_, fun ok => ?_, fun n hn => (kb n hn).of kl⟩
    · intro x hx
      simp only [rows5, List.mem_cons, List.not_mem_nil, or_false] at hx
      rcases hx with rfl | rfl | rfl | rfl | rfl <;> (dsimp only; decide +kernel)
    obtain ⟨o1, o2, o3, o4, o5⟩ := rows5_ok ok
    obtain ⟨m1, b1, rfl⟩ := dirs_mask o1
    obtain ⟨m2, b2, rfl⟩ := dirs_mask o2
    obtain ⟨m3, b3, rfl⟩ := dirs_mask o3
    obtain ⟨m4, b4, rfl⟩ := dirs_mask o4
    obtain ⟨m5, b5, rfl⟩ := dirs_mask o5
    obtain ⟨t1, rfl, q1⟩ := dp_mask h1.1
    obtain ⟨t2, rfl, q2⟩ := dp_mask h2.1
    obtain ⟨t3, rfl, q3⟩ := dp_mask h3.1
    obtain ⟨t4, rfl, q4⟩ := dp_mask h4.1
    obtain ⟨t5, rfl, q5⟩ := dp_mask h5.1
    have ep := kl _ _ hp
    generalize upd _ l _ = HL at ep kl
    refine ⟨_, rfl, _, rfl, p, CB, dx, [], rfl, ep, T.cl, T.n1, (by show 0 < 1000; decide), ?_⟩
    refine ⟨_, rfl, _, rfl, p, CB, dx, _, rfl, upd_same, T.cl, T.n2, (by show 1 < 1000; decide), ?_⟩
    refine ⟨_, rfl, _, rfl, p, CB, dx, _, rfl, upd_same, T.cl, T.n3, (by show 2 < 1000; decide), ?_⟩
    refine ⟨_, rfl, _, rfl, p, CB, dx, _, rfl, upd_same, T.cl, T.n4, (by show 3 < 1000; decide), ?_⟩
    refine ⟨_, rfl, _, rfl, p, CB, dx, _, rfl, upd_same, T.cl, T.n5, (by show 4 < 1000; decide), ?_⟩
    repeat rw [upd_upd]
    have off : ∀ o', ∀ q o, q ≠ p → H q = some o → (upd HL p o') q = some o := fun o' q o hq e => by
      rw [upd_ne hq]
      exact kl _ _ e
    have inp : ∀ {o' : HO} {a : Addr} {xs : List V}, SqT K H a xs → SqT K (upd HL p o') a xs := fun h => sqT_upd h (fun ys z => by rw [hp] at z; cases z) (fun o ys z => by rw [hp] at z; cases z) (off _)
    exact k (m1, m2, m3, m4, m5) ⟨b1, b2, b3, b4, b5⟩ rfl rfl rfl rfl rfl _ (off _) ⟨dx, t1, t2, t3, t4, t5, upd_same, ⟨b1, b2, b3, b4, b5⟩, inp q1, inp q2, inp q3, inp q4, inp q5⟩
end
end Sc
/-! A setting made of any data. -/
namespace Sc
open PySem L2 NdefX
abbrev cpW : List Str := ["none", "ends", "all"]
abbrev plW : List Str := ["first", "best", "worst", "next", "halves"]
def inTD (ws : List Str) (d : PyData) : Bool := (ws.map PyData.str).any fun z => PyData.eqv z d
theorem str_eqv {w : Str} {d : PyData} (h : PyData.eqv (.str w) d = true) : d = .str w := by
  cases d <;> simp [PyData.eqv] at h
  rw [h]
theorem inTD_str {ws : List Str} {d : PyData} (h : inTD ws d = true) : ∃ z, d = .str z ∧ z ∈ ws := by
  unfold inTD at h
  obtain ⟨x, hx, e⟩ := List.any_eq_true.mp h
  obtain ⟨w, hw, rfl⟩ := List.mem_map.mp hx
  exact ⟨w, str_eqv e, hw⟩
theorem cp_in {z : Str} (h : z ∈ cpW) : inV (.str z) cpV = true := by
  simp only [List.mem_cons, List.not_mem_nil, or_false] at h
  rcases h with rfl | rfl | rfl <;> decide +kernel
theorem pl_in {z : Str} (h : z ∈ plW) : inV (.str z) plV = true := by
  simp only [List.mem_cons, List.not_mem_nil, or_false] at h
  rcases h with rfl | rfl | rfl | rfl | rfl <;> decide +kernel
theorem boolD {d : PyData} (h : isBoolD d = true) : ∃ b, d = .bool b := by
  cases d <;> simp [isBoolD] at h
  exact ⟨_, rfl⟩
theorem wholD {lo hi : Int} {d : PyData} (h : wholeD lo hi d = true) : ∃ i, d = .int i ∧ lo ≤ i ∧ i ≤ hi := by
  cases d <;> simp [wholeD] at h
  exact ⟨_, rfl, h⟩
theorem sh_tups : SeqAt.shaped (.tuple (cpW.map .str)) = true ∧ SeqAt.shaped (.tuple (plW.map .str)) = true := by
  constructor <;> refine tup_shaped fun z hz => ?_
  · obtain ⟨w, hw, rfl⟩ := List.mem_map.mp hz
    exact io_cp (cp_in hw)
  · obtain ⟨w, hw, rfl⟩ := List.mem_map.mp hz
    exact io_pl (pl_in hw)
def rows9 (d1 d2 d3 d4 d5 d6 d7 d8 : PyData) (b9 : Bool) : List (Str × Bool) := [("copies", inTD cpW d1), ("cached", isBoolD d2), ("batch", wholeD 0 8 d3), ("early", isBoolD d4), ("drain", isBoolD d5), ("policy", inTD plW d6), ("groups", wholeD 1 32 d7), ("tables", wholeD 1 32 d8), ("book", b9)]
theorem rows9_ok {d1 d2 d3 d4 d5 d6 d7 d8 : PyData} {b9 : Bool} (h : firstBad (rows9 d1 d2 d3 d4 d5 d6 d7 d8 b9) = none) : inTD cpW d1 = true ∧ isBoolD d2 = true ∧ wholeD 0 8 d3 = true ∧ isBoolD d4 = true ∧ isBoolD d5 = true ∧ inTD plW d6 = true ∧ wholeD 1 32 d7 = true ∧ wholeD 1 32 d8 = true ∧ b9 = true := by
  unfold firstBad rows9 at h
  simpa [List.find?_eq_none] using h
/-- the argument book, right or not -/
def BkD (K : PySem.W.Frag) (CB : Addr) (H : Hp) (x : V) (b9 : Bool) (v : B5) : Prop := (BkArg K CB H x v ∧ b9 = true) ∨ (∃ d, Dp K H x d ∧ x ≠ .non ∧ b9 = false)
def DS (K : PySem.W.Frag) (H : Hp) (x : V) (d : PyData) : Prop := Dp K H x d ∧ SeqAt.shaped d = true
def spStInitR (K : PySem.W.Frag) (CE CS CB : Addr) : Sp := fun vs H Q E => ∃ (p dx : Addr) (x1 x2 x3 x4 x5 x6 x7 x8 bk : V) (d1 d2 d3 d4 d5 d6 d7 d8 : PyData) (b9 : Bool) (v : B5), vs = [.ref p, x1, x2, x3, x4, x5, x6, x7, x8, bk] ∧ H p = some (.ins CS dx []) ∧
  DS K H x1 d1 ∧ DS K H x2 d2 ∧ DS K H x3 d3 ∧ DS K H x4 d4 ∧ DS K H x5 d5 ∧ DS K H x6 d6 ∧ DS K H x7 d7 ∧ DS K H x8 d8 ∧ BkD K CB H bk b9 v ∧
  (∀ n, firstBad (rows9 d1 d2 d3 d4 d5 d6 d7 d8 b9) = some n → BadF CE n H E) ∧
  ∀ (s : S8), s.Ok → [x1, x2, x3, x4, x5, x6, x7, x8] = vals8 s → b9 = true → ∀ H' b', (∀ q o, q ≠ p → H q = some o → H' q = some o) → H' p = some (.ins CS dx (stf s b')) → H b' = none → BookAt K CB H' b' v → Q .non H'
section
variable {P : Program} {w : World} {K : PySem.W.Frag} {mg : Str → Option Value} {base : Heap} {CS CB CE dT wT cT pT : Addr}
theorem ok_stinitR {f fC fW fS fI : Addr} {fd fdC fdW fdS fdI : FuncData} {kws : List (Str × V)} (F : FunD K "__init__" "Setting.__init__" (defArgs s_Setting___init__) (defBody s_Setting___init__) (defScope s_Setting___init__) [] kws f fd) (U : TSt K mg CS) (T : TBk K mg CB) (Z : IsR K CB) (isi : mg "isinstance" = none) (bool : mg "bool" = none) (D : DirAt K mg dT wT cT pT)
    (kb9 : ∀ d : PyData, (∀ kvs, d ≠ .dict kvs) → PySem.W.kitOne K (.type (tyD d)) (.ref CB) = some false)
    (GC : FnOk P w K mg base (L2.CX P w) 3 fC fdC ["fields"] (spCheckR CE)) (DC : Def K mg "_check" fC fdC ["fields"]) (GW : FnOk P w K mg base CX0 2 fW fdW ["value", "least", "most"] (spWhole K)) (DW : Def K mg "whole" fW fdW ["value", "least", "most"])
    (GS : FnOk P w K mg base CX0 4 fS fdS ["book"] (spSame K CB)) (DSm : Def K mg "_same_book" fS fdS ["book"]) (M : Mk K CB fI) (GI : FnOk P w K mg base CX0 2 fI fdI NBk (spBInit K CB)) (FI : FB K dT wT fI fdI) : FnOk P w K mg base (L2.CX P w) 5 f fd NSt (spStInitR K CE CS CB) := by
  obtain ⟨g0, hb0⟩ := kb_none FI
  refine F.ok scStInit (fun vs H Q E h => ?_) (fun cdv A outer s H vs Q E hr h => ?_)
  · obtain ⟨p, dx, x1, x2, x3, x4, x5, x6, x7, x8, bk, d1, d2, d3, d4, d5, d6, d7, d8, b9, v, rfl, _⟩ := h
    rfl
  · obtain ⟨p, dx, x1, x2, x3, x4, x5, x6, x7, x8, bk, d1, d2, d3, d4, d5, d6, d7, d8, b9, v, rfl, hp, h1, h2, h3, h4, h5, h6, h7, h8, hB, kb, k⟩ := h
    have u65 : (A.deeper (PyProof.Rows.envOfC "Setting.__init__" (defScope s_Setting___init__) s.heap.objs.size f cdv)).units + 65 < cLine := by have := hr.un; omega
    refine ⟨_, pss_cons (ps_expr (pe_call (E := E) GC (hr.mono (by decide)) (by rfl) DC.at_ DC.kp DC.bd .nil (passes_call (takes_of rfl rfl rfl rfl) fun _ _ _ _ z => z) (pa_cons (pe_lst (pa_cons (pe_tup (pa_cons pe_str (pa_cons (pe_cmpR (Dd2.op_inDT u65) (pv 1) (pe_glob (v := .ref cT) rfl D.cop rfl) (by rfl)) pa_nil)))
          (pa_cons (pe_tup (pa_cons pe_str (pa_cons (pe_callB call_isi (by rfl) isi (by decide +kernel) (pa_cons (pv 2) (pa_cons (pe_bltn (v := .ty "bool") (by rfl) bool (by decide +kernel) rfl) pa_nil))) pa_nil)))
          (pa_cons (pe_tup (pa_cons pe_str (pa_cons (pe_call GW (hr.mono (by decide)) (by rfl) DW.at_ DW.kp DW.bd .nil pass0 (pa_cons (pv 3) (pa_cons pe_int (pa_cons pe_int pa_nil)))) pa_nil)))
          (pa_cons (pe_tup (pa_cons pe_str (pa_cons (pe_callB call_isi (by rfl) isi (by decide +kernel) (pa_cons (pv 4) (pa_cons (pe_bltn (v := .ty "bool") (by rfl) bool (by decide +kernel) rfl) pa_nil))) pa_nil)))
          (pa_cons (pe_tup (pa_cons pe_str (pa_cons (pe_callB call_isi (by rfl) isi (by decide +kernel) (pa_cons (pv 5) (pa_cons (pe_bltn (v := .ty "bool") (by rfl) bool (by decide +kernel) rfl) pa_nil))) pa_nil)))
          (pa_cons (pe_tup (pa_cons pe_str (pa_cons (pe_cmpR (Dd2.op_inDT u65) (pv 6) (pe_glob (v := .ref pT) rfl D.pol rfl) (by rfl)) pa_nil)))
          (pa_cons (pe_tup (pa_cons pe_str (pa_cons (pe_call GW (hr.mono (by decide)) (by rfl) DW.at_ DW.kp DW.bd .nil pass0 (pa_cons (pv 7) (pa_cons pe_int (pa_cons pe_int pa_nil)))) pa_nil)))
          (pa_cons (pe_tup (pa_cons pe_str (pa_cons (pe_call GW (hr.mono (by decide)) (by rfl) DW.at_ DW.kp DW.bd .nil pass0 (pa_cons (pv 8) (pa_cons pe_int (pa_cons pe_int pa_nil)))) pa_nil)))
          (pa_cons (pe_tup (pa_cons pe_str (pa_cons (pe_or (pe_cmpR op_isN (pv 9) pe_non (nomark _)) (pe_one (pe_callB call_isi (by rfl) isi (by decide +kernel) (pa_cons (pv 9) (pa_cons (pe_glob (v := .ref CB) rfl T.mgB rfl) pa_nil))))) pa_nil)))
          pa_nil)))))))))) pa_nil)))
      (pss_cons (ps_fld (pv 0) (pv 1) rfl) (pss_cons (ps_fld (pv 0) (pv 2) rfl) (pss_cons (ps_fld (pv 0) (pv 3) rfl) (pss_cons (ps_fld (pv 0) (pv 4) rfl) (pss_cons (ps_fld (pv 0) (pv 5) rfl) (pss_cons (ps_fld (pv 0) (pv 6) rfl) (pss_cons (ps_fld (pv 0) (pv 7) rfl) (pss_cons (ps_fld (pv 0) (pv 8) rfl) (pss_one (ps_fld (pv 0) (pe_ifExp (pt_cmpR op_isN (pv 9) pe_non (nomark _)) (pe_makeK0 M GI (hr.mono (by decide)) (by rfl) T.mgB hb0 pass0 pk_nil) (pe_call GS hr (by rfl) DSm.at_ DSm.kp DSm.bd .nil pass0 (pa_cons (pv 9) pa_nil))) rfl)))))))))), ?_⟩
    rcases hB with ⟨⟨rfl, rfl⟩ | ⟨b, rfl, hb⟩, rfl⟩ | ⟨d, hd, hn, rfl⟩
    · refine ⟨_, rfl, d1, cpW.map .str, h1.1, .tup (show SqT K _ cT (cpW.map V.str) from D.cops _) (dpall_str cpW), h1.2, sh_tups.1, (by show 2 ≤ sizeLine; decide), fun u1 nu1 => ?_⟩
      have su1 := put_same (o := .tup [.str "copies", .bl (inTD cpW d1)]) nu1
      have k1 := su1
      refine ⟨_, rfl, _, _, .type (tyD d2), .type "bool", isBoolD d2, rfl, .ty "bool", dp_ty (Dd2.dp_same h2.1 k1), isi_bool d2, (by show 2 ≤ sizeLine; decide), fun u2 nu2 => ?_⟩
      have su2 := put_same (o := .tup [.str "cached", .bl (isBoolD d2)]) nu2
      have k2 := k1.trans su2
      refine ⟨_, rfl, ?_⟩
      dsimp only [tCons, tC, tNil, List.cons_append, List.nil_append]
      refine whole_dp (Dd2.dp_same h3.1 k2) ⟨(by show 2 ≤ sizeLine; decide), fun u3 nu3 => ?_⟩
      have su3 := put_same (o := .tup [.str "batch", .bl (wholeD 0 8 d3)]) nu3
      have k3 := k2.trans su3
      refine ⟨_, rfl, _, _, .type (tyD d4), .type "bool", isBoolD d4, rfl, .ty "bool", dp_ty (Dd2.dp_same h4.1 k3), isi_bool d4, (by show 2 ≤ sizeLine; decide), fun u4 nu4 => ?_⟩
      have su4 := put_same (o := .tup [.str "early", .bl (isBoolD d4)]) nu4
      have k4 := k3.trans su4
      refine ⟨_, rfl, _, _, .type (tyD d5), .type "bool", isBoolD d5, rfl, .ty "bool", dp_ty (Dd2.dp_same h5.1 k4), isi_bool d5, (by show 2 ≤ sizeLine; decide), fun u5 nu5 => ?_⟩
      have su5 := put_same (o := .tup [.str "drain", .bl (isBoolD d5)]) nu5
      have k5 := k4.trans su5
      refine ⟨_, rfl, d6, plW.map .str, (Dd2.dp_same h6.1 k5), .tup (show SqT K _ pT (plW.map V.str) from D.pols _) (dpall_str plW), h6.2, sh_tups.2, (by show 2 ≤ sizeLine; decide), fun u6 nu6 => ?_⟩
      have su6 := put_same (o := .tup [.str "policy", .bl (inTD plW d6)]) nu6
      have k6 := k5.trans su6
      refine ⟨_, rfl, ?_⟩
      dsimp only [tCons, tC, tNil, List.cons_append, List.nil_append]
      refine whole_dp (Dd2.dp_same h7.1 k6) ⟨(by show 2 ≤ sizeLine; decide), fun u7 nu7 => ?_⟩
      have su7 := put_same (o := .tup [.str "groups", .bl (wholeD 1 32 d7)]) nu7
      have k7 := k6.trans su7
      refine ⟨_, rfl, ?_⟩
      dsimp only [tCons, tC, tNil, List.cons_append, List.nil_append]
      refine whole_dp (Dd2.dp_same h8.1 k7) ⟨(by show 2 ≤ sizeLine; decide), fun u8 nu8 => ?_⟩
      have su8 := put_same (o := .tup [.str "tables", .bl (wholeD 1 32 d8)]) nu8
      have k8 := k7.trans su8
      refine ⟨_, rfl, rfl, _, rfl, iteT ⟨(by show 2 ≤ sizeLine; decide), fun u9 nu9 => ?_⟩⟩
      have su9 := put_same (o := .tup [.str "book", .bl true]) nu9
      have k9 := k8.trans su9
      refine ⟨(by show 9 ≤ sizeLine; decide), fun l nl => ?_⟩
      have sl := put_same (o := .lst [.ref u1, .ref u2, .ref u3, .ref u4, .ref u5, .ref u6, .ref u7, .ref u8, .ref u9]) nl
      have kl := k9.trans sl
      refine ⟨l, [u1, u2, u3, u4, u5, u6, u7, u8, u9], rows9 d1 d2 d3 d4 d5 d6 d7 d8 true, rfl, upd_same, (.cons (sl _ _ (su9 _ _ (su8 _ _ (su7 _ _ (su6 _ _ (su5 _ _ (su4 _ _ (su3 _ _ (su2 _ _ upd_same))))))))) (.cons (sl _ _ (su9 _ _ (su8 _ _ (su7 _ _ (su6 _ _ (su5 _ _ (su4 _ _ (su3 _ _ upd_same)))))))) (.cons (sl _ _ (su9 _ _ (su8 _ _ (su7 _ _ (su6 _ _ (su5 _ _ (su4 _ _ upd_same))))))) (.cons (sl _ _ (su9 _ _ (su8 _ _ (su7 _ _ (su6 _ _ (su5 _ _ upd_same)))))) (.cons (sl _ _ (su9 _ _ (su8 _ _ (su7 _ _ (su6 _ _ upd_same))))) (.cons (sl _ _ (su9 _ _ (su8 _ _ (su7 _ _ upd_same)))) (.cons (sl _ _ (su9 _ _ (su8 _ _ upd_same))) (.cons (sl _ _ (su9 _ _ upd_same)) (.cons (sl _ _ upd_same) .nil))))))))), ?_, fun ok => ?_, fun n hn => (kb n hn).of kl⟩
      · intro x hx
        simp only [rows9, List.mem_cons, List.not_mem_nil, or_false] at hx
        rcases hx with rfl | rfl | rfl | rfl | rfl | rfl | rfl | rfl | rfl <;> (dsimp only; decide +kernel)
      obtain ⟨o1, o2, o3, o4, o5, o6, o7, o8, _⟩ := rows9_ok ok
      obtain ⟨z1, rfl, y1⟩ := inTD_str o1
      obtain ⟨z2, rfl⟩ := boolD o2
      obtain ⟨z3, rfl, y3, y3'⟩ := wholD o3
      obtain ⟨z4, rfl⟩ := boolD o4
      obtain ⟨z5, rfl⟩ := boolD o5
      obtain ⟨z6, rfl, y6⟩ := inTD_str o6
      obtain ⟨z7, rfl, y7, y7'⟩ := wholD o7
      obtain ⟨z8, rfl, y8, y8'⟩ := wholD o8
      cases h1.1; cases h2.1; cases h3.1; cases h4.1; cases h5.1; cases h6.1; cases h7.1; cases h8.1
      have hs : S8.Ok ⟨z1, z2, z3, z4, z5, z6, z7, z8⟩ := ⟨cp_in y1, y3, y3', pl_in y6, y7, y7', y8, y8'⟩
      generalize hS : (⟨z1, z2, z3, z4, z5, z6, z7, z8⟩ : S8) = S at hs
      replace k := k S hs (by rw [← hS]) rfl
      have ep := kl _ _ hp
      generalize upd _ l _ = HL at ep kl
      refine ⟨_, rfl, _, rfl, p, CS, dx, [], rfl, ep, U.cl, U.n1, (by show 0 < 1000; decide), ?_⟩
      refine ⟨_, rfl, _, rfl, p, CS, dx, _, rfl, upd_same, U.cl, U.n2, (by show 1 < 1000; decide), ?_⟩
      refine ⟨_, rfl, _, rfl, p, CS, dx, _, rfl, upd_same, U.cl, U.n3, (by show 2 < 1000; decide), ?_⟩
      refine ⟨_, rfl, _, rfl, p, CS, dx, _, rfl, upd_same, U.cl, U.n4, (by show 3 < 1000; decide), ?_⟩
      refine ⟨_, rfl, _, rfl, p, CS, dx, _, rfl, upd_same, U.cl, U.n5, (by show 4 < 1000; decide), ?_⟩
      refine ⟨_, rfl, _, rfl, p, CS, dx, _, rfl, upd_same, U.cl, U.n6, (by show 5 < 1000; decide), ?_⟩
      refine ⟨_, rfl, _, rfl, p, CS, dx, _, rfl, upd_same, U.cl, U.n7, (by show 6 < 1000; decide), ?_⟩
      refine ⟨_, rfl, _, rfl, p, CS, dx, _, rfl, upd_same, U.cl, U.n8, (by show 7 < 1000; decide), ?_⟩
      repeat rw [upd_upd]
      have offp : ∀ o', ∀ q o, q ≠ p → H q = some o → (upd HL p o') q = some o := fun o' q o hq e => by
        rw [upd_ne hq]
        exact kl _ _ e
      generalize hM : (HO.ins CS dx (putF "tables" (.int z8) (putF "groups" (.int z7) (putF "policy" (.str z6) (putF "drain" (.bl z5) (putF "early" (.bl z4) (putF "batch" (.int z3) (putF "cached" (.bl z2) (putF "copies" (.str z1) []))))))))) = oM
      replace offp := offp oM
      have eM : (upd HL p oM) p = some oM := upd_same
      generalize upd HL p oM = HM at offp eM ⊢
      subst hM
      subst hS
      have inp : ∀ {a : Addr} {xs : List V}, SqT K H a xs → SqT K HM a xs := fun h => sqT_upd h (fun ys z => by rw [hp] at z; cases z) (fun o ys z => by rw [hp] at z; cases z) offp
      refine ⟨_, rfl, rfl, _, rfl, ?_⟩
      refine iteT ⟨rfl, rfl, fun x dxx nx nd ne => ?_⟩
      obtain ⟨s0, fin⟩ := book_new (CB := CB) (H3 := HM) nx nd ne ok_std (D.dirs HM) (D.wris HM) (D.dirs HM) (D.dirs HM) (D.wris HM)
      refine ⟨x, dxx, dT, wT, dT, dT, wT, std5, rfl, upd_same, ok_std, D.dirs _, D.wris _, D.dirs _, D.dirs _, D.wris _, fun H3 hk e3 => ⟨rfl, ?_⟩⟩
      obtain ⟨s3, b3⟩ := (book_new (CB := CB) (H3 := H3) nx nd ne ok_std (D.dirs HM) (D.wris HM) (D.dirs HM) (D.dirs HM) (D.wris HM)).2 hk e3
      refine ⟨_, rfl, p, CS, dx, _, rfl, s3 _ _ eM, U.cl, U.n9, (by show 8 < 1000; decide), ?_⟩
      have nxH : H x = none := by
        cases q : H x with
        | none => rfl
        | some o =>
          by_cases z : x = p
          · rw [z, eM] at nx
            cases nx
          · rw [offp _ _ z q] at nx
            cases nx
      have nep : x ≠ p := fun z => by rw [z, eM] at nx; cases nx
      exact k _ x (fun q o hq e => by rw [upd_ne hq]; exact s3 _ _ (offp _ _ hq e)) upd_same nxH (by
        obtain ⟨d1, r1, r2, r3, r4, r5, q0, qv, q1, q2, q3, q4, q5⟩ := b3
        refine ⟨d1, r1, r2, r3, r4, r5, by rw [upd_ne nep]; exact q0, qv, ?_, ?_, ?_, ?_, ?_⟩
        all_goals refine sqT_upd (by assumption) (fun ys z => ?_) (fun o ys z => ?_) (fun q o hq e => by rw [upd_ne hq]; exact e)
        all_goals
          rw [s3 _ _ eM] at z
          cases z)
    · refine ⟨_, rfl, d1, cpW.map .str, h1.1, .tup (show SqT K _ cT (cpW.map V.str) from D.cops _) (dpall_str cpW), h1.2, sh_tups.1, (by show 2 ≤ sizeLine; decide), fun u1 nu1 => ?_⟩
      have su1 := put_same (o := .tup [.str "copies", .bl (inTD cpW d1)]) nu1
      have k1 := su1
      refine ⟨_, rfl, _, _, .type (tyD d2), .type "bool", isBoolD d2, rfl, .ty "bool", dp_ty (Dd2.dp_same h2.1 k1), isi_bool d2, (by show 2 ≤ sizeLine; decide), fun u2 nu2 => ?_⟩
      have su2 := put_same (o := .tup [.str "cached", .bl (isBoolD d2)]) nu2
      have k2 := k1.trans su2
      refine ⟨_, rfl, ?_⟩
      dsimp only [tCons, tC, tNil, List.cons_append, List.nil_append]
      refine whole_dp (Dd2.dp_same h3.1 k2) ⟨(by show 2 ≤ sizeLine; decide), fun u3 nu3 => ?_⟩
      have su3 := put_same (o := .tup [.str "batch", .bl (wholeD 0 8 d3)]) nu3
      have k3 := k2.trans su3
      refine ⟨_, rfl, _, _, .type (tyD d4), .type "bool", isBoolD d4, rfl, .ty "bool", dp_ty (Dd2.dp_same h4.1 k3), isi_bool d4, (by show 2 ≤ sizeLine; decide), fun u4 nu4 => ?_⟩
      have su4 := put_same (o := .tup [.str "early", .bl (isBoolD d4)]) nu4
      have k4 := k3.trans su4
      refine ⟨_, rfl, _, _, .type (tyD d5), .type "bool", isBoolD d5, rfl, .ty "bool", dp_ty (Dd2.dp_same h5.1 k4), isi_bool d5, (by show 2 ≤ sizeLine; decide), fun u5 nu5 => ?_⟩
      have su5 := put_same (o := .tup [.str "drain", .bl (isBoolD d5)]) nu5
      have k5 := k4.trans su5
      refine ⟨_, rfl, d6, plW.map .str, (Dd2.dp_same h6.1 k5), .tup (show SqT K _ pT (plW.map V.str) from D.pols _) (dpall_str plW), h6.2, sh_tups.2, (by show 2 ≤ sizeLine; decide), fun u6 nu6 => ?_⟩
      have su6 := put_same (o := .tup [.str "policy", .bl (inTD plW d6)]) nu6
      have k6 := k5.trans su6
      refine ⟨_, rfl, ?_⟩
      dsimp only [tCons, tC, tNil, List.cons_append, List.nil_append]
      refine whole_dp (Dd2.dp_same h7.1 k6) ⟨(by show 2 ≤ sizeLine; decide), fun u7 nu7 => ?_⟩
      have su7 := put_same (o := .tup [.str "groups", .bl (wholeD 1 32 d7)]) nu7
      have k7 := k6.trans su7
      refine ⟨_, rfl, ?_⟩
      dsimp only [tCons, tC, tNil, List.cons_append, List.nil_append]
      refine whole_dp (Dd2.dp_same h8.1 k7) ⟨(by show 2 ≤ sizeLine; decide), fun u8 nu8 => ?_⟩
      have su8 := put_same (o := .tup [.str "tables", .bl (wholeD 1 32 d8)]) nu8
      have k8 := k7.trans su8
      refine ⟨_, rfl, rfl, _, rfl, iteF ?_⟩
      obtain ⟨dxb, _, _, _, _, _, eb, _⟩ := hb.same k8
      refine ⟨_, rfl, _, _, .ref CB, .ref CB, true, rfl, .own CB, .base (.ins eb T.cl Z.ha Z.hn Z.htk Z.hm), kit_self, (by show 2 ≤ sizeLine; decide), fun u9 nu9 => ?_⟩
      have su9 := put_same (o := .tup [.str "book", .bl true]) nu9
      have k9 := k8.trans su9
      refine ⟨(by show 9 ≤ sizeLine; decide), fun l nl => ?_⟩
      have sl := put_same (o := .lst [.ref u1, .ref u2, .ref u3, .ref u4, .ref u5, .ref u6, .ref u7, .ref u8, .ref u9]) nl
      have kl := k9.trans sl
      refine ⟨l, [u1, u2, u3, u4, u5, u6, u7, u8, u9], rows9 d1 d2 d3 d4 d5 d6 d7 d8 true, rfl, upd_same, (.cons (sl _ _ (su9 _ _ (su8 _ _ (su7 _ _ (su6 _ _ (su5 _ _ (su4 _ _ (su3 _ _ (su2 _ _ upd_same))))))))) (.cons (sl _ _ (su9 _ _ (su8 _ _ (su7 _ _ (su6 _ _ (su5 _ _ (su4 _ _ (su3 _ _ upd_same)))))))) (.cons (sl _ _ (su9 _ _ (su8 _ _ (su7 _ _ (su6 _ _ (su5 _ _ (su4 _ _ upd_same))))))) (.cons (sl _ _ (su9 _ _ (su8 _ _ (su7 _ _ (su6 _ _ (su5 _ _ upd_same)))))) (.cons (sl _ _ (su9 _ _ (su8 _ _ (su7 _ _ (su6 _ _ upd_same))))) (.cons (sl _ _ (su9 _ _ (su8 _ _ (su7 _ _ upd_same)))) (.cons (sl _ _ (su9 _ _ (su8 _ _ upd_same))) (.cons (sl _ _ (su9 _ _ upd_same)) (.cons (sl _ _ upd_same) .nil))))))))), ?_, fun ok => ?_, fun n hn => (kb n hn).of kl⟩
      · intro x hx
        simp only [rows9, List.mem_cons, List.not_mem_nil, or_false] at hx
        rcases hx with rfl | rfl | rfl | rfl | rfl | rfl | rfl | rfl | rfl <;> (dsimp only; decide +kernel)
      obtain ⟨o1, o2, o3, o4, o5, o6, o7, o8, _⟩ := rows9_ok ok
      obtain ⟨z1, rfl, y1⟩ := inTD_str o1
      obtain ⟨z2, rfl⟩ := boolD o2
      obtain ⟨z3, rfl, y3, y3'⟩ := wholD o3
      obtain ⟨z4, rfl⟩ := boolD o4
      obtain ⟨z5, rfl⟩ := boolD o5
      obtain ⟨z6, rfl, y6⟩ := inTD_str o6
      obtain ⟨z7, rfl, y7, y7'⟩ := wholD o7
      obtain ⟨z8, rfl, y8, y8'⟩ := wholD o8
      cases h1.1; cases h2.1; cases h3.1; cases h4.1; cases h5.1; cases h6.1; cases h7.1; cases h8.1
      have hs : S8.Ok ⟨z1, z2, z3, z4, z5, z6, z7, z8⟩ := ⟨cp_in y1, y3, y3', pl_in y6, y7, y7', y8, y8'⟩
      generalize hS : (⟨z1, z2, z3, z4, z5, z6, z7, z8⟩ : S8) = S at hs
      replace k := k S hs (by rw [← hS]) rfl
      have ep := kl _ _ hp
      generalize upd _ l _ = HL at ep kl
      refine ⟨_, rfl, _, rfl, p, CS, dx, [], rfl, ep, U.cl, U.n1, (by show 0 < 1000; decide), ?_⟩
      refine ⟨_, rfl, _, rfl, p, CS, dx, _, rfl, upd_same, U.cl, U.n2, (by show 1 < 1000; decide), ?_⟩
      refine ⟨_, rfl, _, rfl, p, CS, dx, _, rfl, upd_same, U.cl, U.n3, (by show 2 < 1000; decide), ?_⟩
      refine ⟨_, rfl, _, rfl, p, CS, dx, _, rfl, upd_same, U.cl, U.n4, (by show 3 < 1000; decide), ?_⟩
      refine ⟨_, rfl, _, rfl, p, CS, dx, _, rfl, upd_same, U.cl, U.n5, (by show 4 < 1000; decide), ?_⟩
      refine ⟨_, rfl, _, rfl, p, CS, dx, _, rfl, upd_same, U.cl, U.n6, (by show 5 < 1000; decide), ?_⟩
      refine ⟨_, rfl, _, rfl, p, CS, dx, _, rfl, upd_same, U.cl, U.n7, (by show 6 < 1000; decide), ?_⟩
      refine ⟨_, rfl, _, rfl, p, CS, dx, _, rfl, upd_same, U.cl, U.n8, (by show 7 < 1000; decide), ?_⟩
      repeat rw [upd_upd]
      have offp : ∀ o', ∀ q o, q ≠ p → H q = some o → (upd HL p o') q = some o := fun o' q o hq e => by
        rw [upd_ne hq]
        exact kl _ _ e
      generalize hM : (HO.ins CS dx (putF "tables" (.int z8) (putF "groups" (.int z7) (putF "policy" (.str z6) (putF "drain" (.bl z5) (putF "early" (.bl z4) (putF "batch" (.int z3) (putF "cached" (.bl z2) (putF "copies" (.str z1) []))))))))) = oM
      replace offp := offp oM
      have eM : (upd HL p oM) p = some oM := upd_same
      generalize upd HL p oM = HM at offp eM ⊢
      subst hM
      subst hS
      have inp : ∀ {a : Addr} {xs : List V}, SqT K H a xs → SqT K HM a xs := fun h => sqT_upd h (fun ys z => by rw [hp] at z; cases z) (fun o ys z => by rw [hp] at z; cases z) offp
      refine ⟨_, rfl, rfl, _, rfl, ?_⟩
      refine iteF ⟨_, rfl, b, v, rfl, ?_, fun H3 x s3 nx b3 => ?_⟩
      · obtain ⟨d1, r1, r2, r3, r4, r5, q0, qv, q1, q2, q3, q4, q5⟩ := hb
        exact ⟨d1, r1, r2, r3, r4, r5, offp _ _ (fun z => by rw [z, hp] at q0; injection q0 with q0; injection q0 with _ _ q0; exact absurd (congrArg (fun l => l.lookup ("take_copied" : Str)) q0) (by rw [bk5]; simp)) q0, qv, inp q1, inp q2, inp q3, inp q4, inp q5⟩
      refine ⟨_, rfl, p, CS, dx, _, rfl, s3 _ _ eM, U.cl, U.n9, (by show 8 < 1000; decide), ?_⟩
      have nxH : H x = none := by
        cases q : H x with
        | none => rfl
        | some o =>
          by_cases z : x = p
          · rw [z, eM] at nx
            cases nx
          · rw [offp _ _ z q] at nx
            cases nx
      have nep : x ≠ p := fun z => by rw [z, eM] at nx; cases nx
      exact k _ x (fun q o hq e => by rw [upd_ne hq]; exact s3 _ _ (offp _ _ hq e)) upd_same nxH (by
        obtain ⟨d1, r1, r2, r3, r4, r5, q0, qv, q1, q2, q3, q4, q5⟩ := b3
        refine ⟨d1, r1, r2, r3, r4, r5, by rw [upd_ne nep]; exact q0, qv, ?_, ?_, ?_, ?_, ?_⟩
        all_goals refine sqT_upd (by assumption) (fun ys z => ?_) (fun o ys z => ?_) (fun q o hq e => by rw [upd_ne hq]; exact e)
        all_goals
          rw [s3 _ _ eM] at z
          cases z)
    · refine ⟨_, rfl, d1, cpW.map .str, h1.1, .tup (show SqT K _ cT (cpW.map V.str) from D.cops _) (dpall_str cpW), h1.2, sh_tups.1, (by show 2 ≤ sizeLine; decide), fun u1 nu1 => ?_⟩
      have su1 := put_same (o := .tup [.str "copies", .bl (inTD cpW d1)]) nu1
      have k1 := su1
      refine ⟨_, rfl, _, _, .type (tyD d2), .type "bool", isBoolD d2, rfl, .ty "bool", dp_ty (Dd2.dp_same h2.1 k1), isi_bool d2, (by show 2 ≤ sizeLine; decide), fun u2 nu2 => ?_⟩
      have su2 := put_same (o := .tup [.str "cached", .bl (isBoolD d2)]) nu2
      have k2 := k1.trans su2
      refine ⟨_, rfl, ?_⟩
      dsimp only [tCons, tC, tNil, List.cons_append, List.nil_append]
      refine whole_dp (Dd2.dp_same h3.1 k2) ⟨(by show 2 ≤ sizeLine; decide), fun u3 nu3 => ?_⟩
      have su3 := put_same (o := .tup [.str "batch", .bl (wholeD 0 8 d3)]) nu3
      have k3 := k2.trans su3
      refine ⟨_, rfl, _, _, .type (tyD d4), .type "bool", isBoolD d4, rfl, .ty "bool", dp_ty (Dd2.dp_same h4.1 k3), isi_bool d4, (by show 2 ≤ sizeLine; decide), fun u4 nu4 => ?_⟩
      have su4 := put_same (o := .tup [.str "early", .bl (isBoolD d4)]) nu4
      have k4 := k3.trans su4
      refine ⟨_, rfl, _, _, .type (tyD d5), .type "bool", isBoolD d5, rfl, .ty "bool", dp_ty (Dd2.dp_same h5.1 k4), isi_bool d5, (by show 2 ≤ sizeLine; decide), fun u5 nu5 => ?_⟩
      have su5 := put_same (o := .tup [.str "drain", .bl (isBoolD d5)]) nu5
      have k5 := k4.trans su5
      refine ⟨_, rfl, d6, plW.map .str, (Dd2.dp_same h6.1 k5), .tup (show SqT K _ pT (plW.map V.str) from D.pols _) (dpall_str plW), h6.2, sh_tups.2, (by show 2 ≤ sizeLine; decide), fun u6 nu6 => ?_⟩
      have su6 := put_same (o := .tup [.str "policy", .bl (inTD plW d6)]) nu6
      have k6 := k5.trans su6
      refine ⟨_, rfl, ?_⟩
      dsimp only [tCons, tC, tNil, List.cons_append, List.nil_append]
      refine whole_dp (Dd2.dp_same h7.1 k6) ⟨(by show 2 ≤ sizeLine; decide), fun u7 nu7 => ?_⟩
      have su7 := put_same (o := .tup [.str "groups", .bl (wholeD 1 32 d7)]) nu7
      have k7 := k6.trans su7
      refine ⟨_, rfl, ?_⟩
      dsimp only [tCons, tC, tNil, List.cons_append, List.nil_append]
      refine whole_dp (Dd2.dp_same h8.1 k7) ⟨(by show 2 ≤ sizeLine; decide), fun u8 nu8 => ?_⟩
      have su8 := put_same (o := .tup [.str "tables", .bl (wholeD 1 32 d8)]) nu8
      have k8 := k7.trans su8
      refine ⟨_, rfl, rfl, _, rfl, ?_⟩
      rw [decide_eq_false hn]
      refine iteF ⟨_, rfl, _, _, .type (tyD d), .ref CB, false, rfl, .own CB, dp_ty (Dd2.dp_same hd k8), kb9 d (fun kvs z => by rw [z] at hd; cases hd), (by show 2 ≤ sizeLine; decide), fun u9 nu9 => ?_⟩
      have su9 := put_same (o := .tup [.str "book", .bl false]) nu9
      have k9 := k8.trans su9
      refine ⟨(by show 9 ≤ sizeLine; decide), fun l nl => ?_⟩
      have sl := put_same (o := .lst [.ref u1, .ref u2, .ref u3, .ref u4, .ref u5, .ref u6, .ref u7, .ref u8, .ref u9]) nl
      have kl := k9.trans sl
      refine ⟨l, [u1, u2, u3, u4, u5, u6, u7, u8, u9], rows9 d1 d2 d3 d4 d5 d6 d7 d8 false, rfl, upd_same, (.cons (sl _ _ (su9 _ _ (su8 _ _ (su7 _ _ (su6 _ _ (su5 _ _ (su4 _ _ (su3 _ _ (su2 _ _ upd_same))))))))) (.cons (sl _ _ (su9 _ _ (su8 _ _ (su7 _ _ (su6 _ _ (su5 _ _ (su4 _ _ (su3 _ _ upd_same)))))))) (.cons (sl _ _ (su9 _ _ (su8 _ _ (su7 _ _ (su6 _ _ (su5 _ _ (su4 _ _ upd_same))))))) (.cons (sl _ _ (su9 _ _ (su8 _ _ (su7 _ _ (su6 _ _ (su5 _ _ upd_same)))))) (.cons (sl _ _ (su9 _ _ (su8 _ _ (su7 _ _ (su6 _ _ upd_same))))) (.cons (sl _ _ (su9 _ _ (su8 _ _ (su7 _ _ upd_same)))) (.cons (sl _ _ (su9 _ _ (su8 _ _ upd_same))) (.cons (sl _ _ (su9 _ _ upd_same)) (.cons (sl _ _ upd_same) .nil))))))))), ?_, fun ok => ?_, fun n hn => (kb n hn).of kl⟩
      · intro x hx
        simp only [rows9, List.mem_cons, List.not_mem_nil, or_false] at hx
        rcases hx with rfl | rfl | rfl | rfl | rfl | rfl | rfl | rfl | rfl <;> (dsimp only; decide +kernel)
      exact absurd (rows9_ok ok).2.2.2.2.2.2.2.2 (by decide)
end
end Sc
namespace Sc
open PySem L2
/-! ### what the law draws -/
structure TB (mg : Str → Option Value) : Prop where
  len : mg "len" = none
  abs : mg "abs" = none
  enum : mg "enumerate" = none
  range : mg "range" = none
  min : mg "min" = none
  max : mg "max" = none
  isi : mg "isinstance" = none
  int : mg "int" = none
  bool : mg "bool" = none
  tuple : mg "tuple" = none
  repr : mg "repr" = none
def SameB (b : Addr) (H H' : Hp) : Prop := ∀ q o, q ≠ b → H q = some o → H' q = some o
theorem Off.same {b : Addr} {H H' : Hp} (h : Off b H H') : SameB b H H' := fun q o n e => by rw [h q n]; exact e
theorem SameB.trans {b : Addr} {H H1 H2 : Hp} (h : SameB b H H1) (k : SameB b H1 H2) : SameB b H H2 := fun q o n e => k q o n (h q o n e)
theorem SameB.refl (b : Addr) (H : Hp) : SameB b H H := fun _ _ _ e => e
theorem sb {H H' : Hp} (b : Addr) (h : Same H H') : SameB b H H' := fun q o _ e => h q o e
theorem BagS.ne {H : Hp} {b l : Addr} {o : HO} (h : BagS H b) (e : H l = some o) (n : ∀ i j : Int, o ≠ .lst [.int i, .int j]) : l ≠ b := fun z => by
  obtain ⟨i, j, h, _⟩ := h
  rw [z, h] at e
  exact n i j (Option.some.inj e).symm
theorem BagS.mon {H H' : Hp} {b : Addr} (h : BagS H b) (k : Same H H') : BagS H' b := by
  obtain ⟨i, j, h, r⟩ := h
  exact ⟨i, j, k _ _ h, r⟩
theorem sqT_b {K : PySem.W.Frag} {H H' : Hp} {a b : Addr} {xs : List V} (h : SqT K H a xs) (hb : BagS H b) (k : SameB b H H') : SqT K H' a xs := by
  obtain ⟨i, j, hb, _⟩ := hb
  exact sqT_upd h (fun ys z => by rw [hb] at z; cases z) (fun o ys z => by rw [hb] at z; cases z) k
def DutAt (K : PySem.W.Frag) (H : Hp) (q : Addr) (v : B5) : Prop := ∃ t1 t2 t3 t4 t5, H q = some (.lst [.ref t1, .ref t2, .ref t3, .ref t4, .ref t5]) ∧ ok5 v ∧ SqT K H t1 (wv v.1) ∧ SqT K H t2 (wv v.2.1) ∧ SqT K H t3 (wv v.2.2.1) ∧ SqT K H t4 (wv v.2.2.2.1) ∧ SqT K H t5 (wv v.2.2.2.2)
theorem DutAt.same {K : PySem.W.Frag} {H H' : Hp} {q : Addr} {v : B5} (h : DutAt K H q v) (k : Same H H') : DutAt K H' q v := by
  obtain ⟨t1, t2, t3, t4, t5, e, o, h1, h2, h3, h4, h5⟩ := h
  exact ⟨t1, t2, t3, t4, t5, k _ _ e, o, sqT_same h1 k, sqT_same h2 k, sqT_same h3 k, sqT_same h4 k, sqT_same h5 k⟩
theorem DutAt.b {K : PySem.W.Frag} {H H' : Hp} {q b : Addr} {v : B5} (h : DutAt K H q v) (hb : BagS H b) (k : SameB b H H') : DutAt K H' q v := by
  obtain ⟨t1, t2, t3, t4, t5, e, o, h1, h2, h3, h4, h5⟩ := h
  exact ⟨t1, t2, t3, t4, t5, k _ _ (hb.ne e fun i j z => by cases z) e, o, sqT_b h1 hb k, sqT_b h2 hb k, sqT_b h3 hb k, sqT_b h4 hb k, sqT_b h5 hb k⟩
def NineAt (K : PySem.W.Frag) (H : Hp) (x : V) : Option B5 → Prop
  | none => x = .non
  | some v => ∃ q, x = .ref q ∧ DutAt K H q v
def ToldAt (K : PySem.W.Frag) (H : Hp) (l : Addr) (s : S8) (o : Option B5) : Prop := ∃ x, H l = some (.lst (vals8 s ++ [x])) ∧ s.Ok ∧ NineAt K H x o
theorem NineAt.same {K : PySem.W.Frag} {H H' : Hp} {x : V} : ∀ {o : Option B5}, NineAt K H x o → Same H H' → NineAt K H' x o
  | none, h, _ => h
  | some v, ⟨q, e, h⟩, k => ⟨q, e, h.same k⟩
theorem NineAt.b {K : PySem.W.Frag} {H H' : Hp} {x : V} {b : Addr} : ∀ {o : Option B5}, NineAt K H x o → BagS H b → SameB b H H' → NineAt K H' x o
  | none, h, _, _ => h
  | some v, ⟨q, e, h⟩, hb, k => ⟨q, e, h.b hb k⟩
theorem ToldAt.same {K : PySem.W.Frag} {H H' : Hp} {l : Addr} {s : S8} {o : Option B5} (h : ToldAt K H l s o) (k : Same H H') : ToldAt K H' l s o := by
  obtain ⟨x, e, hs, n⟩ := h
  exact ⟨x, k _ _ e, hs, n.same k⟩
theorem ToldAt.b {K : PySem.W.Frag} {H H' : Hp} {l b : Addr} {s : S8} {o : Option B5} (h : ToldAt K H l s o) (hb : BagS H b) (k : SameB b H H') : ToldAt K H' l s o := by
  obtain ⟨x, e, hs, n⟩ := h
  exact ⟨x, k _ _ (hb.ne e fun i j z => by cases z) e, hs, n.b hb k⟩
def ok5? (o : Option B5) : Prop := ∀ v, o = some v → ok5 v
theorem NineAt.ok {K : PySem.W.Frag} {H : Hp} {x : V} : ∀ {o : Option B5}, NineAt K H x o → ok5 (o.getD std5)
  | none, _ => ok_std
  | some v, ⟨_, _, h⟩ => by
    obtain ⟨_, _, _, _, _, _, o, _⟩ := h
    exact o
def spOf : Sp := fun vs H Q _ => ∃ (b l : Addr) (xs : List V), vs = [.ref b, .ref l] ∧ BagS H b ∧ H l = some (.lst xs) ∧ 3 ≤ xs.length ∧ xs.length < 1000 ∧ ∀ (x : V) H', x ∈ xs → BagS H' b → SameB b H H' → Q x H'
def spWays : Sp := fun vs H Q _ => ∃ n : Int, vs = [.int n] ∧ 0 ≤ n ∧ n < 8 ∧ ∀ H' t, Same H H' → H t = none → H' t = some (.tup (wv n.toNat)) → Q (.ref t) H'
def bits3 : List (Str × Int) := [("to", 1), ("from", 2), ("both", 4)]
theorem bits_ways : ∀ n : Nat, n < 8 → (bits3.filter fun x => decide (V.int (((n : Int).fdiv x.2) % 2) = .int 1)).map (fun x => V.str x.1) = wv n := by decide +kernel
section
variable {P : Program} {w : World} {K : PySem.W.Frag} {mg : Str → Option Value} {base : Heap}
theorem scOf : FnScope ["_law_bag_here", "_law_some"] ["_law_bag_here", "_law_some"] (defScope s__law_of) := ⟨rfl, rfl, rfl, by decide +kernel, rfl, by decide +kernel, by decide +kernel⟩
theorem ok_of {f fT : Addr} {fd fdT : FuncData} (F : Fun K "_law_of" "_law_of" s__law_of f fd) (B : TB mg) (GT : FnOk P w K mg base CX0 1 fT fdT ["_law_bag_here", "_law_many"] spTake2) (DT : Def K mg "_law_take" fT fdT ["_law_bag_here", "_law_many"]) : FnOk P w K mg base CX0 2 f fd ["_law_bag_here", "_law_some"] spOf := by
  refine F.ok scOf (fun vs H Q E h => ?_) (fun cdv A outer s H vs Q E hr h => ?_)
  · obtain ⟨b, l, xs, rfl, _⟩ := h
    rfl
  · obtain ⟨b, l, xs, rfl, hb, hl, x1, x2, k⟩ := h
    refine ⟨_, pss_one (ps_ret (pe_ix ix_list (pv 1) (pe_call GT hr (by rfl) DT.at_ DT.kp DT.bd .nil pass0 (pa_cons (pv 0) (pa_cons (pe_callB call_len_seq (by rfl) B.len PySem.boot_len (pa_cons (pv 1) pa_nil)) pa_nil))) (fun _ _ => rfl))), ?_⟩
    refine ⟨_, rfl, _, rfl, _, rfl, l, xs, rfl, .inl (SqL.of hl), b, _, rfl, by omega, by omega, hb, fun r H' r0 r1 hb' of => ?_⟩
    have nl : l ≠ b := hb.ne hl fun i j z => by
      injection z with z
      rw [z] at x1
      simp at x1
    have hi : r.toNat < xs.length := by omega
    refine ⟨l, xs, _, xs[r.toNat], rfl, rfl, SqL.of (of.same _ _ nl hl), at_of (j := r.toNat) (by omega) (List.getElem?_eq_getElem hi), ?_⟩
    exact k _ _ (List.getElem_mem hi) hb' of.same
abbrev NWa : List Str := ["_law_number", "_law_way", "_law_bit"]
theorem scWays : FnScope NWa ["_law_number"] (defScope s__law_ways) := ⟨rfl, rfl, rfl, by decide +kernel, rfl, by decide +kernel, by decide +kernel⟩
theorem ok_ways {f : Addr} {fd : FuncData} (F : Fun K "_law_ways" "_law_ways" s__law_ways f fd) (B : TB mg) : FnOk P w K mg base CX0 1 f fd ["_law_number"] spWays := by
  refine F.ok scWays (fun vs H Q E h => ?_) (fun cdv A outer s H vs Q E hr h => ?_)
  · obtain ⟨n, rfl, _⟩ := h
    rfl
  · obtain ⟨n, rfl, n0, n1, k⟩ := h
    refine ⟨_, pss_one (ps_ret (pe_callTy call_tuple_of (by rfl) B.tuple (by decide +kernel) (pa_cons (pe_lc (own := [("_law_way", 1), ("_law_bit", 2)]) (g := gTup K 2 (gCons (gName 1) (gCons (gName 2) gNil))) rfl scWays.nd
      (pi_tup (pe_tup (pa_cons (pe_tup (pa_cons pe_str (pa_cons pe_int pa_nil))) (pa_cons (pe_tup (pa_cons pe_str (pa_cons pe_int pa_nil))) (pa_cons (pe_tup (pa_cons pe_str (pa_cons pe_int pa_nil))) pa_nil))))) (blkOk_by (N := NWa) (sc := defScope s__law_ways) (by decide +kernel))
      (fun _ _ _ _ _ => pg_tup rfl (pgs_cons (pg_name (i := 1) scWays.nd rfl (Or.inl rfl)) (pgs_cons (pg_name (i := 2) scWays.nd rfl (Or.inl rfl)) pgs_nil))) (fun _ _ _ _ _ => pts_one (pt_cmpR op_eq (pe_op op_mod (pe_op op_fdivN (pv 0) (pv 2)) pe_int) pe_int (nomark _))) (fun _ _ _ _ _ => pv 1)) pa_nil))), ?_⟩
    refine ⟨(by show 2 ≤ sizeLine; decide), fun u1 nu1 => ⟨(by show 2 ≤ sizeLine; decide), fun u2 nu2 => ⟨(by show 2 ≤ sizeLine; decide), fun u3 nu3 => ⟨(by show 3 ≤ sizeLine; decide), fun u nu => ?_⟩⟩⟩⟩
    have s1 := put_same (o := .tup [.str "to", .int 1]) nu1
    have s2 := put_same (o := .tup [.str "from", .int 2]) nu2
    have s3 := put_same (o := .tup [.str "both", .int 4]) nu3
    have s4 := put_same (o := .tup [.ref u1, .ref u2, .ref u3]) nu
    have e1 := s4 _ _ (s3 _ _ (s2 _ _ (upd_same (H := H) (a := u1) (o := .tup [.str "to", .int 1]))))
    have e2 := s4 _ _ (s3 _ _ (upd_same (H := upd H u1 (.tup [.str "to", .int 1])) (a := u2) (o := .tup [.str "from", .int 2])))
    have e3 := s4 _ _ (upd_same (H := upd (upd H u1 (.tup [.str "to", .int 1])) u2 (.tup [.str "from", .int 2])) (a := u3) (o := .tup [.str "both", .int 4]))
    have e4 := upd_same (H := upd (upd (upd H u1 (.tup [.str "to", .int 1])) u2 (.tup [.str "from", .int 2])) u3 (.tup [.str "both", .int 4])) (a := u) (o := .tup [.ref u1, .ref u2, .ref u3])
    have kk := ((s1.trans s2).trans s3).trans s4
    generalize upd _ u _ = H4 at e1 e2 e3 e4 kk ⊢
    refine ⟨u, rfl, ⟨_, .inl (.inl e4)⟩, fun D nD => lc_tup (K := K) (a := u) (xs := [.ref u1, .ref u2, .ref u3]) (fun i H' => Same H4 H' ∧ H' D = some (.lst (((bits3.take i).filter fun x => decide (V.int ((n.fdiv x.2) % 2) = .int 1)).map fun x => V.str x.1))) ⟨put_same nD, upd_same⟩ (fun i H' _ p => .inl (.inl (p.1 _ _ e4))) (fun i x H' hx p => ?_) fun H' p => ?_⟩
    · obtain ⟨p1, p2⟩ := p
      have row : ∃ (t : Addr) (wd : Str) (bt : Int), x = .ref t ∧ H4 t = some (.tup [.str wd, .int bt]) ∧ bits3[i]? = some (wd, bt) ∧ 1 ≤ bt ∧ bt < 1073741824 := by
        match i, hx with
        | 0, hx => cases hx; exact ⟨u1, _, _, rfl, e1, rfl, by decide, by decide⟩
        | 1, hx => cases hx; exact ⟨u2, _, _, rfl, e2, rfl, by decide, by decide⟩
        | 2, hx => cases hx; exact ⟨u3, _, _, rfl, e3, rfl, by decide, by decide⟩
        | j + 3, hx => simp at hx
      obtain ⟨t, wd, bt, rfl, et, hi, b1, b2⟩ := row
      refine ⟨t, _, rfl, .inl (.inl (p1 _ _ et)), rfl, _, _, rfl, _, _, rfl, rfl, rfl, ?_⟩
      refine ⟨_, rfl, _, rfl, _, _, rfl, rfl, ⟨by omega, by omega⟩, _, _, rfl, rfl, (by show (0 : Int) < 2; decide), rfl, _, rfl, ?_⟩
      refine ite2 (fun hc => ?_) fun hc => ?_
      · refine ⟨_, rfl, _, p2, ?_, (fun c o e => ?_), ?_⟩
        · rw [List.length_map]
          refine Nat.lt_of_le_of_lt (List.length_filter_le _ _) (Nat.lt_of_le_of_lt (List.length_take_le' _ _) (show 3 < sizeLine by decide))
        · rw [upd_ne (ne_of_none e nD)]
          exact p1 _ _ e
        · have z : ((some (wd, bt)).toList).filter (fun x : Str × Int => decide (V.int ((n.fdiv x.2) % 2) = .int 1)) = [(wd, bt)] := by
            show List.filter _ [(wd, bt)] = _
            rw [List.filter_cons]
            exact if_pos hc
          rw [upd_same, List.take_add_one, hi, List.filter_append, z, List.map_append]
          rfl
      · refine ⟨p1, ?_⟩
        have z : ((some (wd, bt)).toList).filter (fun x : Str × Int => decide (V.int ((n.fdiv x.2) % 2) = .int 1)) = [] := by
          show List.filter _ [(wd, bt)] = _
          rw [List.filter_cons]
          exact if_neg hc
        rw [p2, List.take_add_one, hi, List.filter_append, z, List.append_nil]
    · obtain ⟨p1, p2⟩ := p
      rw [show bits3.take [V.ref u1, V.ref u2, V.ref u3].length = bits3 from rfl] at p2
      have hn : (n.toNat : Int) = n := Int.toNat_of_nonneg n0
      have e := bits_ways n.toNat (by omega)
      rw [hn] at e
      rw [e] at p2
      refine ⟨D, _, rfl, .inl ⟨SqL.of p2, fun t nt => ?_⟩⟩
      exact k _ t ((kk.trans p1).trans (put_same nt)) ((kk.trans p1).free nt) upd_same
end
end Sc
namespace Sc
open PySem L2
/-! ### _law_right -/
def spRight (K : PySem.W.Frag) : Sp := fun vs H Q _ => ∃ b : Addr, vs = [.ref b] ∧ BagS H b ∧ ∀ H' l s, BagS H' b → SameB b H H' → ToldAt K H' l s none → Q (.ref l) H'
abbrev NAr : List Str := ["_law_bag_here", "_law_found"]
section
variable {P : Program} {w : World} {K : PySem.W.Frag} {mg : Str → Option Value} {base : Heap}
theorem scRight : FnScope NAr ["_law_bag_here"] (defScope s__law_right) := ⟨rfl, rfl, rfl, by decide +kernel, rfl, by decide +kernel, by decide +kernel⟩
theorem bl_two (r : Int) : ∃ c : Bool, V.bl (decide (V.int r = V.int 0)) = .bl c := ⟨_, rfl⟩
theorem ok_right {f fT fO fW : Addr} {fd fdT fdO fdW : FuncData} (F : Fun K "_law_right" "_law_right" s__law_right f fd) (B : TB mg) (GT : FnOk P w K mg base CX0 1 fT fdT ["_law_bag_here", "_law_many"] spTake2) (DT : Def K mg "_law_take" fT fdT ["_law_bag_here", "_law_many"])
    (GO : FnOk P w K mg base CX0 2 fO fdO ["_law_bag_here", "_law_some"] spOf) (DO : Def K mg "_law_of" fO fdO ["_law_bag_here", "_law_some"]) (GW : FnOk P w K mg base CX0 1 fW fdW ["_law_number"] spWays) (DW : Def K mg "_law_ways" fW fdW ["_law_number"]) : FnOk P w K mg base CX0 3 f fd ["_law_bag_here"] (spRight K) := by
  refine F.ok scRight (fun vs H Q E h => ?_) (fun cdv A outer s H vs Q E hr h => ?_)
  · obtain ⟨b, rfl, _⟩ := h
    rfl
  · obtain ⟨b, rfl, hb, k⟩ := h
    have hr1 : Room 1 _ := hr.mono (by decide)
    refine ⟨_, pss_cons (ps_set (i := 1) scRight.nd rfl (Or.inl rfl) (pe_lst (pa_cons (pe_call GO hr (by rfl) DO.at_ DO.kp DO.bd .nil pass0 (pa_cons (pv 0) (pa_cons (pe_lst (pa_cons pe_str (pa_cons pe_str (pa_cons pe_str pa_nil)))) pa_nil)))
        (pa_cons (pe_cmpR op_eq (pe_call GT hr1 (by rfl) DT.at_ DT.kp DT.bd .nil pass0 (pa_cons (pv 0) (pa_cons pe_int pa_nil))) pe_int (nomark _)) (pa_cons (pe_call GT hr1 (by rfl) DT.at_ DT.kp DT.bd .nil pass0 (pa_cons (pv 0) (pa_cons pe_int pa_nil))) (pa_cons (pe_cmpR op_eq (pe_call GT hr1 (by rfl) DT.at_ DT.kp DT.bd .nil pass0 (pa_cons (pv 0) (pa_cons pe_int pa_nil))) pe_int (nomark _)) pa_nil))))))
      (pss_cons (ps_set (i := 1) scRight.nd rfl (Or.inl rfl) (pe_op op_cat (pv 1) (pe_lst (pa_cons (pe_cmpR op_eq (pe_call GT hr1 (by rfl) DT.at_ DT.kp DT.bd .nil pass0 (pa_cons (pv 0) (pa_cons pe_int pa_nil))) pe_int (nomark _)) (pa_cons (pe_call GO hr (by rfl) DO.at_ DO.kp DO.bd .nil pass0 (pa_cons (pv 0) (pa_cons (pe_lst (pa_cons pe_str (pa_cons pe_str (pa_cons pe_str (pa_cons pe_str (pa_cons pe_str pa_nil)))))) pa_nil))) pa_nil)))))
      (pss_one (ps_ret (pe_op op_cat (pv 1) (pe_lst (pa_cons (pe_op op_add pe_int (pe_call GT hr1 (by rfl) DT.at_ DT.kp DT.bd .nil pass0 (pa_cons (pv 0) (pa_cons pe_int pa_nil)))) (pa_cons (pe_op op_add pe_int (pe_call GT hr1 (by rfl) DT.at_ DT.kp DT.bd .nil pass0 (pa_cons (pv 0) (pa_cons pe_int pa_nil)))) (pa_cons pe_non pa_nil)))))))), ?_⟩
    refine ⟨_, rfl, (by show 3 ≤ sizeLine; decide), fun c1 n1 => ?_⟩
    have s1 := put_same (o := .lst cpV) n1
    refine ⟨b, c1, cpV, rfl, hb.mon s1, upd_same, by decide, by decide, fun x1 H1 m1 b1 q1 => ?_⟩
    have t1 := (sb b s1).trans q1
    refine ⟨_, rfl, b, 2, rfl, by decide, by decide, b1, fun r2 H2 _ _ b2 o2 => ⟨rfl, ?_⟩⟩
    have t2 := t1.trans o2.same
    refine ⟨_, rfl, b, 9, rfl, by decide, by decide, b2, fun r3 H3 r30 r31 b3 o3 => ?_⟩
    have t3 := t2.trans o3.same
    refine ⟨_, rfl, b, 2, rfl, by decide, by decide, b3, fun r4 H4 _ _ b4 o4 => ⟨rfl, ?_⟩⟩
    have t4 := t3.trans o4.same
    refine ⟨(by show 4 ≤ sizeLine; decide), fun l4 nl4 => ?_⟩
    have s5 := put_same (o := .lst [x1, .bl (decide (V.int r2 = .int 0)), .int r3, .bl (decide (V.int r4 = .int 0))]) nl4
    have t5 := t4.trans (sb b s5)
    have b5 := b4.mon s5
    have e5 := upd_same (H := H4) (a := l4) (o := .lst [x1, .bl (decide (V.int r2 = .int 0)), .int r3, .bl (decide (V.int r4 = .int 0))])
    generalize upd H4 l4 _ = H5 at s5 t5 b5 e5 ⊢
    refine ⟨_, rfl, _, rfl, b, 2, rfl, by decide, by decide, b5, fun r6 H6 _ _ b6 o6 => ⟨rfl, ?_⟩⟩
    have t6 := t5.trans o6.same
    have e6 := o6.same _ _ (b5.ne e5 fun i j z => by cases z) e5
    refine ⟨_, rfl, (by show 5 ≤ sizeLine; decide), fun c7 n7 => ?_⟩
    have s7 := put_same (o := .lst plV) n7
    refine ⟨b, c7, plV, rfl, b6.mon s7, upd_same, by decide, by decide, fun x7 H7 m7 b7 q7 => ?_⟩
    have t7 := t6.trans ((sb b s7).trans q7)
    have e7 := q7 _ _ ((b6.mon s7).ne (s7 _ _ e6) fun i j z => by cases z) (s7 _ _ e6)
    refine ⟨(by show 2 ≤ sizeLine; decide), fun l8 nl8 => ?_⟩
    have s8 := put_same (o := .lst [.bl (decide (V.int r6 = .int 0)), x7]) nl8
    have e8 := upd_same (H := H7) (a := l8) (o := .lst [.bl (decide (V.int r6 = .int 0)), x7])
    have f8 := s8 _ _ e7
    have t8 := t7.trans (sb b s8)
    have b8 := b7.mon s8
    generalize upd H7 l8 _ = H8 at s8 e8 f8 t8 b8 ⊢
    refine ⟨l4, l8, _, _, rfl, rfl, f8, e8, (by show 6 ≤ sizeLine; decide), fun l9 nl9 => ?_⟩
    have s9 := put_same (o := .lst ([x1, .bl (decide (V.int r2 = .int 0)), .int r3, .bl (decide (V.int r4 = .int 0))] ++ [.bl (decide (V.int r6 = .int 0)), x7])) nl9
    have e9 := upd_same (H := H8) (a := l9) (o := .lst ([x1, .bl (decide (V.int r2 = .int 0)), .int r3, .bl (decide (V.int r4 = .int 0))] ++ [.bl (decide (V.int r6 = .int 0)), x7]))
    have t9 := t8.trans (sb b s9)
    have b9 := b8.mon s9
    generalize upd H8 l9 _ = H9 at s9 e9 t9 b9 ⊢
    refine ⟨_, rfl, _, rfl, b, 32, rfl, by decide, by decide, b9, fun r10 H10 g0 g1 b10 o10 => ⟨_, _, rfl, rfl, ?_⟩⟩
    have t10 := t9.trans o10.same
    have e10 := o10.same _ _ (b9.ne e9 fun i j z => by cases z) e9
    refine ⟨_, rfl, b, 32, rfl, by decide, by decide, b10, fun r11 H11 h0 h1 b11 o11 => ⟨_, _, rfl, rfl, ?_⟩⟩
    have t11 := t10.trans o11.same
    have e11 := o11.same _ _ (b10.ne e10 fun i j z => by cases z) e10
    refine ⟨(by show 3 ≤ sizeLine; decide), fun l12 nl12 => ?_⟩
    dsimp only [List.cons_append, List.nil_append] at e11 ⊢
    have s12 := put_same (o := .lst [.int (1 + r10), .int (1 + r11), .non]) nl12
    have e12 := upd_same (H := H11) (a := l12) (o := .lst [.int (1 + r10), .int (1 + r11), .non])
    have f12 := s12 _ _ e11
    have t12 := t11.trans (sb b s12)
    have b12 := b11.mon s12
    generalize upd H11 l12 _ = H12 at s12 e12 f12 t12 b12 ⊢
    refine ⟨l9, l12, _, _, rfl, rfl, f12, e12, (by show 9 ≤ sizeLine; decide), fun l13 nl13 => ?_⟩
    dsimp only [List.cons_append, List.nil_append]
    obtain ⟨z1, rfl, zc⟩ : ∃ z, x1 = .str z ∧ inV (.str z) cpV = true := by
      simp only [List.mem_cons, List.not_mem_nil, or_false] at m1
      rcases m1 with rfl | rfl | rfl <;> exact ⟨_, rfl, by decide +kernel⟩
    obtain ⟨z2, rfl, zp⟩ : ∃ z, x7 = .str z ∧ inV (.str z) plV = true := by
      simp only [List.mem_cons, List.not_mem_nil, or_false] at m7
      rcases m7 with rfl | rfl | rfl | rfl | rfl <;> exact ⟨_, rfl, by decide +kernel⟩
    obtain ⟨S, hS, sok⟩ : ∃ S : S8, [V.str z1, .bl (decide (V.int r2 = .int 0)), .int r3, .bl (decide (V.int r4 = .int 0)), .bl (decide (V.int r6 = .int 0)), .str z2, .int (1 + r10), .int (1 + r11), .non] = vals8 S ++ [.non] ∧ S.Ok := ⟨⟨z1, _, r3, _, _, z2, 1 + r10, 1 + r11⟩, rfl, ⟨zc, r30, by show r3 ≤ 8; omega, zp, by show 1 ≤ 1 + r10; omega, by show 1 + r10 ≤ 32; omega, by show 1 ≤ 1 + r11; omega, by show 1 + r11 ≤ 32; omega⟩⟩
    rw [hS]
    have s13 := put_same (o := .lst (vals8 S ++ [.non])) nl13
    exact k _ l13 S (b12.mon s13) (t12.trans (sb b s13)) ⟨.non, upd_same, sok, rfl⟩
end
end Sc
namespace Sc
open PySem L2 NdefX
def kwS : List (Str × V) := [("copies", .str "none"), ("cached", .bl false), ("batch", .int 0), ("early", .bl false), ("drain", .bl true), ("policy", .str "first"), ("groups", .int 16), ("tables", .int 16), ("book", .non)]
abbrev FSt (K : PySem.W.Frag) (f : Addr) (fd : FuncData) : Prop := FunD K "__init__" "Setting.__init__" (defArgs s_Setting___init__) (defBody s_Setting___init__) (defScope s_Setting___init__) [] kwS f fd
theorem ks_all {K : PySem.W.Frag} {f : Addr} {fd : FuncData} (F : FSt K f fd) : ∃ g, KBn K fd NSt 1 ["copies", "cached", "batch", "early", "drain", "policy", "groups", "tables", "book"] g (fun vs zs => vs ++ zs) := by
  obtain ⟨mv, h⟩ := F.kbinds0 (ps := NSt) 1 ["copies", "cached", "batch", "early", "drain", "policy", "groups", "tables", "book"] [] (fun vs mz zs => vs ++ zs) (fun z => by cases z) (fun q hq => by cases hq) (fun a b c => a.append c) (fun D doc pm an cdv ct us mv ws hu hm hw => match us, mv, ws, hu, hm, hw with
    | [_], [], [_, _, _, _, _, _, _, _, _], _, _, _ => rfl)
  exact ⟨_, h⟩
def spLBookR (K : PySem.W.Frag) (CE CB : Addr) : Sp := fun vs H Q E => ∃ (l : Addr) (x1 x2 x3 x4 x5 : V) (d1 d2 d3 d4 d5 : PyData), vs = [.ref l] ∧ H l = some (.lst [x1, x2, x3, x4, x5]) ∧ DS K H x1 d1 ∧ DS K H x2 d2 ∧ DS K H x3 d3 ∧ DS K H x4 d4 ∧ DS K H x5 d5 ∧
  (∀ n, firstBad (rows5 d1 d2 d3 d4 d5) = some n → BadF CE n H E) ∧ ∀ v : B5, ok5 v → d1 = dW v.1 → d2 = dW v.2.1 → d3 = dW v.2.2.1 → d4 = dW v.2.2.2.1 → d5 = dW v.2.2.2.2 → ∀ H' y, Same H H' → H y = none → BookAt K CB H' y v → Q (.ref y) H'
def spLSetR (K : PySem.W.Frag) (CE CS CB : Addr) : Sp := fun vs H Q E => ∃ (l : Addr) (x1 x2 x3 x4 x5 x6 x7 x8 bk : V) (d1 d2 d3 d4 d5 d6 d7 d8 : PyData) (b9 : Bool) (v : B5), vs = [.ref l] ∧ H l = some (.lst [x1, x2, x3, x4, x5, x6, x7, x8, bk]) ∧
  DS K H x1 d1 ∧ DS K H x2 d2 ∧ DS K H x3 d3 ∧ DS K H x4 d4 ∧ DS K H x5 d5 ∧ DS K H x6 d6 ∧ DS K H x7 d7 ∧ DS K H x8 d8 ∧ BkD K CB H bk b9 v ∧
  (∀ n, firstBad (rows9 d1 d2 d3 d4 d5 d6 d7 d8 b9) = some n → BadF CE n H E) ∧ ∀ s : S8, s.Ok → [x1, x2, x3, x4, x5, x6, x7, x8] = vals8 s → b9 = true → ∀ H' y, Same H H' → H y = none → SetAt K CS CB H' y s v → Q (.ref y) H'
theorem DS.same {K : PySem.W.Frag} {H H' : Hp} {x : V} {d : PyData} (h : DS K H x d) (k : Same H H') : DS K H' x d := ⟨Dd2.dp_same h.1 k, h.2⟩
theorem BkD.same {K : PySem.W.Frag} {CB : Addr} {H H' : Hp} {x : V} {b9 : Bool} {v : B5} (h : BkD K CB H x b9 v) (k : Same H H') : BkD K CB H' x b9 v := by
  rcases h with ⟨⟨rfl, e⟩ | ⟨b, rfl, hb⟩, e2⟩ | ⟨d, hd, hn, e⟩
  · exact .inl ⟨.inl ⟨rfl, e⟩, e2⟩
  · exact .inl ⟨.inr ⟨b, rfl, hb.same k⟩, e2⟩
  · exact .inr ⟨d, Dd2.dp_same hd k, hn, e⟩
theorem made_same {H : Hp} {x dx C : Addr} (nx : H x = none) (nd : H dx = none) : Same H (upd (upd H dx (.own x)) x (.ins C dx [])) := fun c o e => by
  rw [upd_ne (ne_of_none e nx), upd_ne (ne_of_none e nd)]
  exact e
abbrev NLb : List Str := ["_law_told", "_law_a", "_law_b", "_law_c", "_law_d", "_law_e"]
abbrev NLs : List Str := ["_law_told", "_law_one", "_law_two", "_law_three", "_law_four", "_law_five", "_law_six", "_law_seven", "_law_eight", "_law_nine"]
section
variable {P : Program} {w : World} {K : PySem.W.Frag} {mg : Str → Option Value} {base : Heap} {CE CS CB dT wT : Addr}
theorem scLBook : FnScope NLb ["_law_told"] (defScope s__law_book) := ⟨rfl, rfl, rfl, by decide +kernel, rfl, by decide +kernel, by decide +kernel⟩
theorem ok_lbookR {f fI : Addr} {fd fdI : FuncData} (F : Fun K "_law_book" "_law_book" s__law_book f fd) (T : TBk K mg CB) (M : Mk K CB fI) (GI : FnOk P w K mg base (L2.CX P w) 4 fI fdI NBk (spBInitR K CE CB)) (FI : FB K dT wT fI fdI) : FnOk P w K mg base (L2.CX P w) 6 f fd ["_law_told"] (spLBookR K CE CB) := by
  obtain ⟨g, hb⟩ := kb_all FI
  refine F.okX scLBook (fun vs H Q E h => ?_) (fun cdv A outer s H vs Q E hr h => ?_)
  · obtain ⟨l, x1, x2, x3, x4, x5, d1, d2, d3, d4, d5, rfl, _⟩ := h
    rfl
  · obtain ⟨l, x1, x2, x3, x4, x5, d1, d2, d3, d4, d5, rfl, el, h1, h2, h3, h4, h5, kb, k⟩ := h
    refine ⟨_, pss_cons (ps_asg (pv 0) (pg_lst rfl (pgs_cons (pg_name (i := 1) scLBook.nd rfl (Or.inl rfl)) (pgs_cons (pg_name (i := 2) scLBook.nd rfl (Or.inl rfl)) (pgs_cons (pg_name (i := 3) scLBook.nd rfl (Or.inl rfl)) (pgs_cons (pg_name (i := 4) scLBook.nd rfl (Or.inl rfl)) (pgs_cons (pg_name (i := 5) scLBook.nd rfl (Or.inl rfl)) pgs_nil)))))))
      (pss_one (ps_ret (pe_makeK0 (E := E) M GI hr (by rfl) T.mgB hb (passes_call (takes_of rfl rfl rfl rfl) fun _ _ _ _ z => z) (pk_cons (pv 1) (pk_cons (pv 2) (pk_cons (pv 3) (pk_cons (pv 4) (pk_cons (pv 5) pk_nil)))))))), ?_⟩
    refine ⟨_, rfl, l, _, rfl, SqL.of el, rfl, _, _, rfl, _, _, rfl, _, _, rfl, _, _, rfl, _, _, rfl, rfl, ?_⟩
    refine ⟨_, rfl, _, rfl, _, rfl, _, rfl, _, rfl, rfl, rfl, fun x dx nx nd ne => ?_⟩
    have s0 := made_same (C := CB) nx nd
    refine ⟨x, dx, x1, x2, x3, x4, x5, d1, d2, d3, d4, d5, rfl, upd_same, h1.same s0, h2.same s0, h3.same s0, h4.same s0, h5.same s0, fun n hn => (kb n hn).of s0, fun v hv e1 e2 e3 e4 e5 H' hk hB => ⟨rfl, ?_⟩⟩
    exact k v hv e1 e2 e3 e4 e5 H' x (fun c o e => hk _ _ (ne_of_none e nx) (s0 _ _ e)) nx hB
theorem scLSet : FnScope NLs ["_law_told"] (defScope s__law_setting) := ⟨rfl, rfl, rfl, by decide +kernel, rfl, by decide +kernel, by decide +kernel⟩
theorem ok_lsetR {f fI : Addr} {fd fdI : FuncData} (F : Fun K "_law_setting" "_law_setting" s__law_setting f fd) (U : TSt K mg CS) (M : Mk K CS fI) (GI : FnOk P w K mg base (L2.CX P w) 5 fI fdI NSt (spStInitR K CE CS CB)) (FI : FSt K fI fdI) : FnOk P w K mg base (L2.CX P w) 7 f fd ["_law_told"] (spLSetR K CE CS CB) := by
  obtain ⟨g, hb⟩ := ks_all FI
  refine F.okX scLSet (fun vs H Q E h => ?_) (fun cdv A outer s H vs Q E hr h => ?_)
  · obtain ⟨l, x1, x2, x3, x4, x5, x6, x7, x8, bk, d1, d2, d3, d4, d5, d6, d7, d8, b9, v, rfl, _⟩ := h
    rfl
  · obtain ⟨l, x1, x2, x3, x4, x5, x6, x7, x8, bk, d1, d2, d3, d4, d5, d6, d7, d8, b9, v, rfl, el, h1, h2, h3, h4, h5, h6, h7, h8, hB, kb, k⟩ := h
    refine ⟨_, pss_cons (ps_asg (pv 0) (pg_lst rfl (pgs_cons (pg_name (i := 1) scLSet.nd rfl (Or.inl rfl)) (pgs_cons (pg_name (i := 2) scLSet.nd rfl (Or.inl rfl)) (pgs_cons (pg_name (i := 3) scLSet.nd rfl (Or.inl rfl)) (pgs_cons (pg_name (i := 4) scLSet.nd rfl (Or.inl rfl)) (pgs_cons (pg_name (i := 5) scLSet.nd rfl (Or.inl rfl)) (pgs_cons (pg_name (i := 6) scLSet.nd rfl (Or.inl rfl)) (pgs_cons (pg_name (i := 7) scLSet.nd rfl (Or.inl rfl)) (pgs_cons (pg_name (i := 8) scLSet.nd rfl (Or.inl rfl)) (pgs_cons (pg_name (i := 9) scLSet.nd rfl (Or.inl rfl)) pgs_nil)))))))))))
      (pss_one (ps_ret (pe_makeK0 (E := E) M GI hr (by rfl) U.mgS hb (passes_call (takes_of rfl rfl rfl rfl) fun _ _ _ _ z => z) (pk_cons (pv 1) (pk_cons (pv 2) (pk_cons (pv 3) (pk_cons (pv 4) (pk_cons (pv 5) (pk_cons (pv 6) (pk_cons (pv 7) (pk_cons (pv 8) (pk_cons (pv 9) pk_nil)))))))))))), ?_⟩
    refine ⟨_, rfl, l, _, rfl, SqL.of el, rfl, _, _, rfl, _, _, rfl, _, _, rfl, _, _, rfl, _, _, rfl, _, _, rfl, _, _, rfl, _, _, rfl, _, _, rfl, rfl, ?_⟩
    refine ⟨_, rfl, _, rfl, _, rfl, _, rfl, _, rfl, _, rfl, _, rfl, _, rfl, _, rfl, rfl, rfl, fun x dx nx nd ne => ?_⟩
    have s0 := made_same (C := CS) nx nd
    refine ⟨x, dx, x1, x2, x3, x4, x5, x6, x7, x8, bk, d1, d2, d3, d4, d5, d6, d7, d8, b9, v, rfl, upd_same, h1.same s0, h2.same s0, h3.same s0, h4.same s0, h5.same s0, h6.same s0, h7.same s0, h8.same s0, hB.same s0, fun n hn => (kb n hn).of s0, fun s hs es eb H' b' hk e nb hb' => ⟨rfl, ?_⟩⟩
    exact k s hs es eb H' x (fun c o q => hk _ _ (ne_of_none q nx) (s0 _ _ q)) nx ⟨dx, b', e, hs, hb'⟩
end
end Sc
/-! isinstance(e, c), e a caught exception of an own class that has fields. -/
namespace Xd
open PySem PySem.Spec PyProof.Rows L2
def rIsED (K : PySem.W.Frag) (a : Addr) (cls : Value) (d : Option Addr) (D : Addr) : List V → Hp → VK → Prop := fun xs H Q => ∃ (c : V) (cv : Value) (b : Bool) (dd : Addr) (fs : List (Str × V)), xs = [.ref a, c] ∧ (∀ u, RelV c u → u = cv) ∧ PySem.W.kitOne K (.ref D) cv = some b ∧ cls = .ref D ∧ d = some dd ∧ H dd = some (.xd fs) ∧ Q (.bl b) H
theorem call_isED {X : Cx} {a D : Addr} {cls : Value} {d : Option Addr} {oe : Obj} {pn : List (Addr × Obj)} (C : ExcC X.K D) (hz : Zc cls d oe) (hf : ∃ vs, oe.data = .fields vs) : CallR (X.suite a ((a, oe) :: pn)) (.builtin "isinstance") (rIsED X.K a cls d D) := by
  rintro pins s σ H xs us Q I r ⟨c, cv, b, dd, fs, rfl, hcv, e, rfl, rfl, ed, q⟩
  obtain ⟨u1, u2, rfl, r1, r2⟩ := vals2 r
  cases (show u1 = Value.ref a from r1)
  have ec := hcv _ r2
  subst ec
  obtain ⟨hget, _⟩ := I.pin (a, oe) (List.mem_append_left _ List.mem_cons_self)
  obtain ⟨mA, hns, _⟩ := (show ObjOk X.prog X.w H s.heap dd (.xd fs) from I.hok dd _ ed)
  obtain ⟨od, ho, _⟩ := lookIn_ns hns
  obtain ⟨vs, hv⟩ := hf
  have J : PySem.W.InstAt s.heap a oe D (some od) := ⟨hget, hz.1, by unfold PySem.W.notCls; rw [hv] <;> rfl, by rw [hz.2]; exact ho⟩
  obtain ⟨cd, hc, _⟩ := PySem.W.any_some C.hd
  exact PySem.W.kia_one (PySem.W.kitx_exc (by rw [hc]; rfl) C.hg C.hk C.hs C.ha C.hn C.ht C.hm) I.kIn J e (fun z => nomatch z) fun tk => ⟨.bl b, H, I.kept (t' := tk) fun _ _ z => z, rfl, q⟩
end Xd
namespace Sc
open PySem L2 LamX
/-! ### _law_field -/
abbrev NFd : List Str := ["_law_call", "_law_e", "_law_is_right"]
/-- what it makes of the call -/
def TFieldR (CE : Addr) : (XK → Hp → VK → Prop) → Hp → VK → Prop := fun tl H Q =>
  tl (fun cls d H' => ∃ dd n, cls = .ref CE ∧ d = some dd ∧ H' dd = some (.xd [(("field" : Str), .str n)]) ∧ Q (.str n) H') H (fun _ H' => Q .non H')
theorem psv_of {X : Cx} {st : List Stmt} {ts : TS} (h : ∀ D σ H, σ.length = X.N.length → ts D σ H → ∃ t, PSs X st t ∧ t D σ H) : PSs X st ts := ⟨fun pins s σ H D I h' => by
  obtain ⟨t, ht, q⟩ := h D σ H I.len h'
  exact ht.run pins s σ H D I q⟩
theorem pe_weak {X : Cx} {e : Expr} {te : TE} (h : PE X e te) : PE X e (fun σ H Q => ∃ k : VK, te σ H k ∧ ∀ v H', k v H' → Q v H') := ⟨fun pins s σ H Q I h' => by
  obtain ⟨k, h1, h2⟩ := h'
  refine wpAny_mono (h.run pins s σ H k I h1) (fun u s' q => ?_) fun _ _ z => z
  obtain ⟨v, H', I', r, q⟩ := q
  exact ⟨v, H', I', r, h2 v H' q⟩⟩
/-- what the walk asks of the three classes -/
structure XF (K : PySem.W.Frag) (mg : Str → Option Value) (CE CW CV : Addr) : Prop where
  gW : mg "WindowError" = some (.ref CW)
  gE : mg "BadEvent" = some (.ref CV)
  gV : mg "ValueError" = none
  isi : mg "isinstance" = none
  kW : PySem.W.kitOne K (.ref CE) (.ref CW) = some true
  kV : PySem.W.kitOne K (.ref CE) (.type "ValueError") = some true
  kE : PySem.W.kitOne K (.ref CE) (.ref CV) = some false
  ec : ExcC K CE
section
variable {X : Cx} {CE CW CV : Addr}
theorem scField : FnScope NFd ["_law_call"] (defScope s__law_field) := ⟨rfl, rfl, rfl, by decide +kernel, rfl, by decide +kernel, by decide +kernel⟩
theorem field_run {g fE cc cda : Addr} {cdg doc pm ct : Value} {q : Str} (N : TE' X.prog X.K X.mg CE fE cc cda doc pm ct) (B : XF X.K X.mg CE CW CV) :
    GivesTo X NFd "_law_field" (defScope s__law_field) g cdg (defBody s__law_field) "_law_call" q (TFieldR CE) := by
  intro f c' s H Q tl act hc h
  refine ⟨_, pss_cons (ps_try_as (X := (cxOf C8.CX0 X.prog X.w X.K X.mg X.base NFd "_law_field" (defScope s__law_field) g cdg X.A X.stack s H C8.E0).nox) (i := 1) (c := .ref CE)
      (tb := fun W D σ H => ∃ Ech : XK, (∀ cls d σ' H', Ech cls d H' → W cls d σ' H') ∧ σ[0]? = some (some (.ref f)) ∧ H c' = some (CodeO c' q) ∧ ∃ k : VK, tl Ech H k ∧ ∀ v H', k v H' → D.nx σ H')
      (ts := fun a cls d D σ H => ∃ dd n, cls = .ref CE ∧ d = some dd ∧ H dd = some (.xd [(("field" : Str), .str n)]) ∧ (∃ σ0 : L2.St, σ = σ0.set 1 (some (.ref a))) ∧ D.rt (.str n) H)
      rfl rfl scField.nd rfl rfl ⟨rfl, by decide, .inl N.mgN⟩ L2.takes0 (fun W pn xe tk _ => ?_) (fun a oe cls d pn hz hf => ?_))
    (pss_one (ps_ret pe_non)), ?_⟩
  · refine psv_of fun D σ H' _ h' => ?_
    obtain ⟨Ech, hW, h1, h2, k, h3, h4⟩ := h'
    exact ⟨_, pss_one (ps_expr (pe_weak (act W pn xe Ech _ _ tk hW))), k, ⟨h1, h2, h3⟩, h4⟩
  · refine psv_of fun D σ H' hl h' => ?_
    obtain ⟨dd, n, rfl, rfl, ed, ⟨σ0, e0⟩, h2⟩ := h'
    have hl3 : σ.length = 3 := hl
    have h1 : σ[1]? = some (some (V.ref a)) := by
      have hl0 : σ0.length = 3 := by rw [e0, List.length_set] at hl; exact hl
      rw [e0, List.getElem?_set_self (by omega)]
    refine ⟨_, pss_cons (ps_set (i := 2) scField.nd rfl (Or.inl rfl) (pe_and (pe_callB (Xd.call_isED B.ec hz hf) (by rfl) B.isi (by decide +kernel) (pa_cons (pv 1) (pa_cons (pe_glob (v := .ref CW) rfl B.gW rfl) pa_nil)))
        (pe_and (pe_callB (Xd.call_isED B.ec hz hf) (by rfl) B.isi (by decide +kernel) (pa_cons (pv 1) (pa_cons (pe_bltn (v := .ty "ValueError") (by rfl) B.gV (by decide +kernel) rfl) pa_nil)))
          (pe_one (pe_not (pe_callB (Xd.call_isED B.ec hz hf) (by rfl) B.isi (by decide +kernel) (pa_cons (pv 1) (pa_cons (pe_glob (v := .ref CV) rfl B.gE rfl) pa_nil))))))))
      (pss_one (ps_ret (pe_ifExp (pt_val (pv 2)) (pe_xf (C := CE) ⟨N.ga, N.gg, N.g.exC, N.g.hd⟩ N.nfield hz hf (pv 1)) pe_int))), ?_⟩
    refine ⟨_, h1, .ref CW, .ref CW, true, dd, _, rfl, fun u e => e, B.kW, rfl, rfl, ed, _, rfl, iteT ?_⟩
    refine ⟨_, h1, .ty "ValueError", .type "ValueError", true, dd, _, rfl, fun u e => e, B.kV, rfl, rfl, ed, _, rfl, iteT ?_⟩
    refine ⟨_, h1, .ref CV, .ref CV, false, dd, _, rfl, fun u e => e, B.kE, rfl, rfl, ed, _, rfl, ?_⟩
    have h1' : (σ.set 2 (some (V.bl (!false))))[1]? = some (some (V.ref a)) := by rw [List.getElem?_set_ne (by decide)]; exact h1
    refine ⟨_, List.getElem?_set_self (by omega), _, rfl, iteT ⟨_, h1', rfl, rfl, dd, _, _, rfl, ed, rfl, h2⟩⟩
  · have xm : PySem.W.exmOne X.K (.ref CE) (.ref CE) = some true := PySem.W.exm_ref N.g.exC N.g.hd N.g.tyC N.sP
    refine ⟨fun cls d H' => ∃ dd n, cls = .ref CE ∧ d = some dd ∧ H' dd = some (.xd [(("field" : Str), .str n)]) ∧ Q (.str n) H', fun cls d σ' H' z => ?_, rfl, hc, _, h, fun v H' hv => hv⟩
    obtain ⟨dd, n, rfl, rfl, ed, hq⟩ := z
    exact ⟨true, xm, fun _ a _ => ⟨dd, n, rfl, rfl, ed, ⟨σ', rfl⟩, hq⟩, fun z => nomatch z⟩
end
end Sc
namespace Sc
open PySem L2
/-! ### odd values -/
def DpS (K : PySem.W.Frag) (N : Addr → Prop) (H : Hp) (x : V) (d : PyData) : Prop := ∀ H', (∀ q o, N q → H q = some o → H' q = some o) → Dp K H' x d
/-- those that were not in H -/
def NewIn (H : Hp) (q : Addr) : Prop := H q = none
section
variable {K : PySem.W.Frag} {N N' : Addr → Prop} {u : Addr} {H H' : Hp} {x : V} {d : PyData} {xs : List V} {ds : List PyData}
theorem dpS_mv (h : DpS K N H x d) (k : ∀ q o, N q → H q = some o → H' q = some o) : DpS K N H' x d := fun _ z => h _ fun q o n e => z q o n (k q o n e)
theorem DpS.dp (h : DpS K N H x d) : Dp K H x d := h _ fun _ _ _ e => e
theorem DpS.of (h : DpS K N H x d) (k : ∀ q o, N q → H q = some o → N' q) : DpS K N' H x d := fun _ z => h _ fun q o n e => z q o (k q o n e) e
theorem dpS_f (h : ∀ {H'}, Dp K H' x d) : DpS K N H x d := fun _ _ => h
theorem dpS_all (a : Paired (DpS K N H) xs ds) (k : ∀ q o, N q → H q = some o → H' q = some o) : DpAll K H' xs ds := by
  induction a with
  | nil => exact .nil
  | cons h _ ih => exact .cons (h _ k) ih
theorem dpS_l (e : H u = some (.lst xs)) (n : N u) (a : Paired (DpS K N H) xs ds) : DpS K N H (.ref u) (.list ds) := fun H' k => .lst (SqL.of (k _ _ n e)) (dpS_all a k)
theorem dpS_t (e : H u = some (.tup xs)) (n : N u) (a : Paired (DpS K N H) xs ds) : DpS K N H (.ref u) (.tuple ds) := fun H' k => .tup (.inl (.inl (k _ _ n e))) (dpS_all a k)
theorem dpS_mem (a : Paired (DpS K N H) xs ds) (h : x ∈ xs) : ∃ d ∈ ds, DpS K N H x d := by
  induction a with
  | nil => cases h
  | cons r _ ih =>
    rcases List.mem_cons.mp h with rfl | h
    · exact ⟨_, List.mem_cons_self .., r⟩
    · obtain ⟨d, hd, q⟩ := ih h
      exact ⟨d, List.mem_cons_of_mem _ hd, q⟩
end
def oddDs : List PyData := [.list [.str "to"], .str "to", .tuple [.str "from", .str "to"], .tuple [.str "to", .str "to"], .tuple [.str "x"], .none, .bool true, .tuple [.str "to", .none], .tuple [.int 0], .tuple [.str "both", .str "from"], .int 3, .tuple [.str "to", .str "from", .str "both", .str "both"], .list [], .tuple [.str "to", .tuple [.str "from"]]]
def spOddD (K : PySem.W.Frag) : Sp := fun vs H Q _ => ∃ b : Addr, vs = [.ref b] ∧ BagS H b ∧ ∀ H' x d, BagS H' b → SameB b H H' → d ∈ oddDs → DpS K (NewIn H) H' x d → Q x H'
theorem scOddD : FnScope ["_law_bag_here", "_law_some"] ["_law_bag_here"] (defScope s__law_odd_duty) := ⟨rfl, rfl, rfl, by decide +kernel, rfl, by decide +kernel, by decide +kernel⟩
theorem ok_oddD {P : Program} {w : World} {K : PySem.W.Frag} {mg : Str → Option Value} {base : Heap} {f fO : Addr} {fd fdO : FuncData} (F : Fun K "_law_odd_duty" "_law_odd_duty" s__law_odd_duty f fd) (GO : FnOk P w K mg base CX0 2 fO fdO ["_law_bag_here", "_law_some"] spOf) (DO : Def K mg "_law_of" fO fdO ["_law_bag_here", "_law_some"]) : FnOk P w K mg base CX0 3 f fd ["_law_bag_here"] (spOddD K) := by
  refine F.ok scOddD (fun vs H Q E h => ?_) (fun cdv A outer s H vs Q E hr h => ?_)
  · obtain ⟨b, rfl, _⟩ := h
    rfl
  · obtain ⟨b, rfl, hb, k⟩ := h
    refine ⟨_, pss_cons (ps_set (i := 1) scOddD.nd rfl (Or.inl rfl) (pe_lst (pa_cons (pe_lst (pa_cons pe_str pa_nil)) (pa_cons pe_str (pa_cons (pe_tup (pa_cons pe_str (pa_cons pe_str pa_nil))) (pa_cons (pe_tup (pa_cons pe_str (pa_cons pe_str pa_nil))) (pa_cons (pe_tup (pa_cons pe_str pa_nil)) (pa_cons pe_non (pa_cons pe_bl (pa_cons (pe_tup (pa_cons pe_str (pa_cons pe_non pa_nil))) (pa_cons (pe_tup (pa_cons pe_int pa_nil)) (pa_cons (pe_tup (pa_cons pe_str (pa_cons pe_str pa_nil))) (pa_cons pe_int pa_nil))))))))))))) (pss_one (ps_ret (pe_call GO hr (by rfl) DO.at_ DO.kp DO.bd .nil pass0 (pa_cons (pv 0) (pa_cons (pe_op op_cat (pv 1) (pe_lst (pa_cons (pe_tup (pa_cons pe_str (pa_cons pe_str (pa_cons pe_str (pa_cons pe_str pa_nil))))) (pa_cons (pe_lst pa_nil) (pa_cons (pe_tup (pa_cons pe_str (pa_cons (pe_tup (pa_cons pe_str pa_nil)) pa_nil))) pa_nil))))) pa_nil))))), ?_⟩
    refine ⟨(by show 1 ≤ sizeLine; decide), fun u1 n1 => ?_⟩
    generalize hH : upd _ u1 _ = H1
    have s1 : Same H H1 := by rw [← hH]; exact put_same n1
    have e1 : H1 u1 = some (.lst [.str "to"]) := by rw [← hH]; exact upd_same
    clear hH
    have k1 : Same H H1 := s1
    refine ⟨(by show 2 ≤ sizeLine; decide), fun u2 n2 => ?_⟩
    generalize hH : upd _ u2 _ = H2
    have s2 : Same H1 H2 := by rw [← hH]; exact put_same n2
    have e2 : H2 u2 = some (.tup [.str "from", .str "to"]) := by rw [← hH]; exact upd_same
    clear hH
    have k2 : Same H H2 := k1.trans s2
    replace e1 := s2 _ _ e1
    refine ⟨(by show 2 ≤ sizeLine; decide), fun u3 n3 => ?_⟩
    generalize hH : upd _ u3 _ = H3
    have s3 : Same H2 H3 := by rw [← hH]; exact put_same n3
    have e3 : H3 u3 = some (.tup [.str "to", .str "to"]) := by rw [← hH]; exact upd_same
    clear hH
    have k3 : Same H H3 := k2.trans s3
    replace e1 := s3 _ _ e1
    replace e2 := s3 _ _ e2
    refine ⟨(by show 1 ≤ sizeLine; decide), fun u4 n4 => ?_⟩
    generalize hH : upd _ u4 _ = H4
    have s4 : Same H3 H4 := by rw [← hH]; exact put_same n4
    have e4 : H4 u4 = some (.tup [.str "x"]) := by rw [← hH]; exact upd_same
    clear hH
    have k4 : Same H H4 := k3.trans s4
    replace e1 := s4 _ _ e1
    replace e2 := s4 _ _ e2
    replace e3 := s4 _ _ e3
    refine ⟨(by show 2 ≤ sizeLine; decide), fun u5 n5 => ?_⟩
    generalize hH : upd _ u5 _ = H5
    have s5 : Same H4 H5 := by rw [← hH]; exact put_same n5
    have e5 : H5 u5 = some (.tup [.str "to", .non]) := by rw [← hH]; exact upd_same
    clear hH
    have k5 : Same H H5 := k4.trans s5
    replace e1 := s5 _ _ e1
    replace e2 := s5 _ _ e2
    replace e3 := s5 _ _ e3
    replace e4 := s5 _ _ e4
    refine ⟨(by show 1 ≤ sizeLine; decide), fun u6 n6 => ?_⟩
    generalize hH : upd _ u6 _ = H6
    have s6 : Same H5 H6 := by rw [← hH]; exact put_same n6
    have e6 : H6 u6 = some (.tup [.int 0]) := by rw [← hH]; exact upd_same
    clear hH
    have k6 : Same H H6 := k5.trans s6
    replace e1 := s6 _ _ e1
    replace e2 := s6 _ _ e2
    replace e3 := s6 _ _ e3
    replace e4 := s6 _ _ e4
    replace e5 := s6 _ _ e5
    refine ⟨(by show 2 ≤ sizeLine; decide), fun u7 n7 => ?_⟩
    generalize hH : upd _ u7 _ = H7
    have s7 : Same H6 H7 := by rw [← hH]; exact put_same n7
    have e7 : H7 u7 = some (.tup [.str "both", .str "from"]) := by rw [← hH]; exact upd_same
    clear hH
    have k7 : Same H H7 := k6.trans s7
    replace e1 := s7 _ _ e1
    replace e2 := s7 _ _ e2
    replace e3 := s7 _ _ e3
    replace e4 := s7 _ _ e4
    replace e5 := s7 _ _ e5
    replace e6 := s7 _ _ e6
    refine ⟨(by show 11 ≤ sizeLine; decide), fun u8 n8 => ?_⟩
    generalize hH : upd _ u8 _ = H8
    have s8 : Same H7 H8 := by rw [← hH]; exact put_same n8
    have e8 : H8 u8 = some (.lst [.ref u1, .str "to", .ref u2, .ref u3, .ref u4, .non, .bl true, .ref u5, .ref u6, .ref u7, .int 3]) := by rw [← hH]; exact upd_same
    clear hH
    have k8 : Same H H8 := k7.trans s8
    replace e1 := s8 _ _ e1
    replace e2 := s8 _ _ e2
    replace e3 := s8 _ _ e3
    replace e4 := s8 _ _ e4
    replace e5 := s8 _ _ e5
    replace e6 := s8 _ _ e6
    replace e7 := s8 _ _ e7
    -- the second
    refine ⟨_, rfl, _, rfl, (by show 4 ≤ sizeLine; decide), fun u9 n9 => ?_⟩
    generalize hH : upd _ u9 _ = H9
    have s9 : Same H8 H9 := by rw [← hH]; exact put_same n9
    have e9 : H9 u9 = some (.tup [.str "to", .str "from", .str "both", .str "both"]) := by rw [← hH]; exact upd_same
    clear hH
    have k9 : Same H H9 := k8.trans s9
    replace e1 := s9 _ _ e1
    replace e2 := s9 _ _ e2
    replace e3 := s9 _ _ e3
    replace e4 := s9 _ _ e4
    replace e5 := s9 _ _ e5
    replace e6 := s9 _ _ e6
    replace e7 := s9 _ _ e7
    replace e8 := s9 _ _ e8
    refine ⟨(by show 0 ≤ sizeLine; decide), fun u10 n10 => ?_⟩
    generalize hH : upd _ u10 _ = H10
    have s10 : Same H9 H10 := by rw [← hH]; exact put_same n10
    have e10 : H10 u10 = some (.lst []) := by rw [← hH]; exact upd_same
    clear hH
    have k10 : Same H H10 := k9.trans s10
    replace e1 := s10 _ _ e1
    replace e2 := s10 _ _ e2
    replace e3 := s10 _ _ e3
    replace e4 := s10 _ _ e4
    replace e5 := s10 _ _ e5
    replace e6 := s10 _ _ e6
    replace e7 := s10 _ _ e7
    replace e8 := s10 _ _ e8
    replace e9 := s10 _ _ e9
    refine ⟨(by show 1 ≤ sizeLine; decide), fun u11 n11 => ?_⟩
    generalize hH : upd _ u11 _ = H11
    have s11 : Same H10 H11 := by rw [← hH]; exact put_same n11
    have e11 : H11 u11 = some (.tup [.str "from"]) := by rw [← hH]; exact upd_same
    clear hH
    have k11 : Same H H11 := k10.trans s11
    replace e1 := s11 _ _ e1
    replace e2 := s11 _ _ e2
    replace e3 := s11 _ _ e3
    replace e4 := s11 _ _ e4
    replace e5 := s11 _ _ e5
    replace e6 := s11 _ _ e6
    replace e7 := s11 _ _ e7
    replace e8 := s11 _ _ e8
    replace e9 := s11 _ _ e9
    replace e10 := s11 _ _ e10
    refine ⟨(by show 2 ≤ sizeLine; decide), fun u12 n12 => ?_⟩
    generalize hH : upd _ u12 _ = H12
    have s12 : Same H11 H12 := by rw [← hH]; exact put_same n12
    have e12 : H12 u12 = some (.tup [.str "to", .ref u11]) := by rw [← hH]; exact upd_same
    clear hH
    have k12 : Same H H12 := k11.trans s12
    replace e1 := s12 _ _ e1
    replace e2 := s12 _ _ e2
    replace e3 := s12 _ _ e3
    replace e4 := s12 _ _ e4
    replace e5 := s12 _ _ e5
    replace e6 := s12 _ _ e6
    replace e7 := s12 _ _ e7
    replace e8 := s12 _ _ e8
    replace e9 := s12 _ _ e9
    replace e10 := s12 _ _ e10
    replace e11 := s12 _ _ e11
    refine ⟨(by show 3 ≤ sizeLine; decide), fun u13 n13 => ?_⟩
    generalize hH : upd _ u13 _ = H13
    have s13 : Same H12 H13 := by rw [← hH]; exact put_same n13
    have e13 : H13 u13 = some (.lst [.ref u9, .ref u10, .ref u12]) := by rw [← hH]; exact upd_same
    clear hH
    have k13 : Same H H13 := k12.trans s13
    replace e1 := s13 _ _ e1
    replace e2 := s13 _ _ e2
    replace e3 := s13 _ _ e3
    replace e4 := s13 _ _ e4
    replace e5 := s13 _ _ e5
    replace e6 := s13 _ _ e6
    replace e7 := s13 _ _ e7
    replace e8 := s13 _ _ e8
    replace e9 := s13 _ _ e9
    replace e10 := s13 _ _ e10
    replace e11 := s13 _ _ e11
    replace e12 := s13 _ _ e12
    refine ⟨u8, u13, _, _, rfl, rfl, e8, e13, (by show 14 ≤ sizeLine; decide), fun u14 n14 => ?_⟩
    generalize hH : upd _ u14 _ = H14
    have s14 : Same H13 H14 := by rw [← hH]; exact put_same n14
    have e14 : H14 u14 = some (.lst [.ref u1, .str "to", .ref u2, .ref u3, .ref u4, .non, .bl true, .ref u5, .ref u6, .ref u7, .int 3, .ref u9, .ref u10, .ref u12]) := by rw [← hH]; exact upd_same
    clear hH
    have k14 : Same H H14 := k13.trans s14
    replace e1 := s14 _ _ e1
    replace e2 := s14 _ _ e2
    replace e3 := s14 _ _ e3
    replace e4 := s14 _ _ e4
    replace e5 := s14 _ _ e5
    replace e6 := s14 _ _ e6
    replace e7 := s14 _ _ e7
    replace e8 := s14 _ _ e8
    replace e9 := s14 _ _ e9
    replace e10 := s14 _ _ e10
    replace e11 := s14 _ _ e11
    replace e12 := s14 _ _ e12
    replace e13 := s14 _ _ e13
    have bf : BagS H14 b := hb.mon k14
    refine ⟨b, u14, _, rfl, bf, e14, (show 3 ≤ 14 by decide), (show 14 < 1000 by decide), fun x H' hx hb' sb' => ?_⟩
    have pr : Paired (DpS K (NewIn H) H14) [.ref u1, .str "to", .ref u2, .ref u3, .ref u4, .non, .bl true, .ref u5, .ref u6, .ref u7, .int 3, .ref u9, .ref u10, .ref u12] oddDs := (.cons (dpS_l e1 (show NewIn H u1 from n1) (.cons (dpS_f (.str _)) .nil)) (.cons (dpS_f (.str _)) (.cons (dpS_t e2 (show NewIn H u2 from k1.free n2) (.cons (dpS_f (.str _)) (.cons (dpS_f (.str _)) .nil))) (.cons (dpS_t e3 (show NewIn H u3 from k2.free n3) (.cons (dpS_f (.str _)) (.cons (dpS_f (.str _)) .nil))) (.cons (dpS_t e4 (show NewIn H u4 from k3.free n4) (.cons (dpS_f (.str _)) .nil)) (.cons (dpS_f .non) (.cons (dpS_f (.bl _)) (.cons (dpS_t e5 (show NewIn H u5 from k4.free n5) (.cons (dpS_f (.str _)) (.cons (dpS_f .non) .nil))) (.cons (dpS_t e6 (show NewIn H u6 from k5.free n6) (.cons (dpS_f (.int _)) .nil)) (.cons (dpS_t e7 (show NewIn H u7 from k6.free n7) (.cons (dpS_f (.str _)) (.cons (dpS_f (.str _)) .nil))) (.cons (dpS_f (.int _)) (.cons (dpS_t e9 (show NewIn H u9 from k8.free n9) (.cons (dpS_f (.str _)) (.cons (dpS_f (.str _)) (.cons (dpS_f (.str _)) (.cons (dpS_f (.str _)) .nil))))) (.cons (dpS_l e10 (show NewIn H u10 from k9.free n10) .nil) (.cons (dpS_t e12 (show NewIn H u12 from k11.free n12) (.cons (dpS_f (.str _)) (.cons (dpS_t e11 (show NewIn H u11 from k10.free n11) (.cons (dpS_f (.str _)) .nil)) .nil))) .nil))))))))))))))
    obtain ⟨d, hd, q⟩ := dpS_mem pr hx
    exact k H' x d hb' ((sb b k14).trans sb') hd (dpS_mv q fun q' o hq e => sb' q' o (fun z => by obtain ⟨_, _, w, _⟩ := hb; rw [z] at hq; unfold NewIn at hq; rw [w] at hq; cases hq) e)
def oddL : Nat → List PyData
  | 0 => [.str "None", .str "", .none, .int 0, .bool true, .tuple [.str "none"], .str "alls", .list [.str "all"]]
  | 1 => [.int 0, .int 1, .none, .str "True", .list [], .tuple []]
  | 2 => [.int (-1), .int 9, .bool true, .none, .str "1", .int 1000000000000000000000000000000, .list []]
  | 3 => [.int 0, .int 1, .none, .str "True", .list [], .tuple []]
  | 4 => [.int 0, .int 1, .none, .str "True", .list [], .tuple []]
  | 5 => [.str "", .str "First", .none, .int 0, .bool true, .list [], .str "nexts", .tuple [.str "next"]]
  | 6 => [.int 0, .int 33, .bool true, .none, .int (-1), .str "5", .int 1000000000000000000000000000000000000000]
  | 7 => [.int 0, .int 33, .bool true, .none, .int (-1), .str "5", .int 1000000000000000000000000000000000000000]
  | 8 => [.tuple [], .str "", .int 0, .bool true, .list [], .bool false, .tuple [.str "to"]]
  | _ => []
def spOdd (K : PySem.W.Frag) : Sp := fun vs H Q _ => ∃ (b : Addr) (at_ : Int), vs = [.ref b, .int at_] ∧ 0 ≤ at_ ∧ at_ < 9 ∧ BagS H b ∧ ∀ H' x d, BagS H' b → SameB b H H' → d ∈ oddL at_.toNat → DpS K (NewIn H) H' x d → Q x H'
abbrev NOd : List Str := ["_law_bag_here", "_law_at", "_law_truths", "_law_some"]
theorem scOdd : FnScope NOd ["_law_bag_here", "_law_at"] (defScope s__law_odd) := ⟨rfl, rfl, rfl, by decide +kernel, rfl, by decide +kernel, by decide +kernel⟩
theorem ok_odd {P : Program} {w : World} {K : PySem.W.Frag} {mg : Str → Option Value} {base : Heap} {f fO : Addr} {fd fdO : FuncData} (F : Fun K "_law_odd" "_law_odd" s__law_odd f fd) (GO : FnOk P w K mg base CX0 2 fO fdO ["_law_bag_here", "_law_some"] spOf) (DO : Def K mg "_law_of" fO fdO ["_law_bag_here", "_law_some"]) : FnOk P w K mg base CX0 3 f fd ["_law_bag_here", "_law_at"] (spOdd K) := by
  refine F.ok scOdd (fun vs H Q E h => ?_) (fun cdv A outer s H vs Q E hr h => ?_)
  · obtain ⟨b, at_, rfl, _⟩ := h
    rfl
  · obtain ⟨b, at_, rfl, a0, a1, hb, k⟩ := h
    refine ⟨_, pss_cons (ps_set (i := 2) scOdd.nd rfl (Or.inl rfl) (pe_lst (pa_cons pe_int (pa_cons pe_int (pa_cons pe_non (pa_cons pe_str (pa_cons (pe_lst pa_nil) (pa_cons (pe_tup pa_nil) pa_nil)))))))) (pss_cons (ps_set (i := 3) scOdd.nd rfl (Or.inl rfl) (pe_lst (pa_cons (pe_lst (pa_cons pe_str (pa_cons pe_str (pa_cons pe_non (pa_cons pe_int (pa_cons pe_bl (pa_cons (pe_tup (pa_cons pe_str pa_nil)) (pa_cons pe_str (pa_cons (pe_lst (pa_cons pe_str pa_nil)) pa_nil))))))))) (pa_cons (pv 2) (pa_cons (pe_lst (pa_cons (pe_un un_neg pe_int) (pa_cons pe_int (pa_cons pe_bl (pa_cons pe_non (pa_cons pe_str (pa_cons (pe_op op_pow pe_int pe_int) (pa_cons (pe_lst pa_nil) pa_nil)))))))) pa_nil))))) (pss_cons (ps_set (i := 3) scOdd.nd rfl (Or.inl rfl) (pe_op op_cat (pv 3) (pe_lst (pa_cons (pv 2) (pa_cons (pv 2) (pa_cons (pe_lst (pa_cons pe_str (pa_cons pe_str (pa_cons pe_non (pa_cons pe_int (pa_cons pe_bl (pa_cons (pe_lst pa_nil) (pa_cons pe_str (pa_cons (pe_tup (pa_cons pe_str pa_nil)) pa_nil))))))))) pa_nil)))))) (pss_cons (ps_set (i := 3) scOdd.nd rfl (Or.inl rfl) (pe_op op_cat (pe_op op_cat (pv 3) (pe_op op_rep (pe_lst (pa_cons (pe_lst (pa_cons pe_int (pa_cons pe_int (pa_cons pe_bl (pa_cons pe_non (pa_cons (pe_un un_neg pe_int) (pa_cons pe_str (pa_cons (pe_op op_pow pe_int pe_int) pa_nil)))))))) pa_nil)) pe_int)) (pe_lst (pa_cons (pe_lst (pa_cons (pe_tup pa_nil) (pa_cons pe_str (pa_cons pe_int (pa_cons pe_bl (pa_cons (pe_lst pa_nil) (pa_cons pe_bl (pa_cons (pe_tup (pa_cons pe_str pa_nil)) pa_nil)))))))) pa_nil)))) (pss_one (ps_ret (pe_call GO hr (by rfl) DO.at_ DO.kp DO.bd .nil pass0 (pa_cons (pv 0) (pa_cons (pe_ix ix_list (pv 3) (pv 1) (fun _ _ => rfl)) pa_nil)))))))), ?_⟩
    refine ⟨(by show 0 ≤ sizeLine; decide), fun u1 n1 => ?_⟩
    generalize hH : upd _ u1 _ = H1
    have s1 : Same H H1 := by rw [← hH]; exact put_same n1
    have e1 : H1 u1 = some (.lst []) := by rw [← hH]; exact upd_same
    clear hH
    have k1 : Same H H1 := s1
    refine ⟨(by show 0 ≤ sizeLine; decide), fun u2 n2 => ?_⟩
    generalize hH : upd _ u2 _ = H2
    have s2 : Same H1 H2 := by rw [← hH]; exact put_same n2
    have e2 : H2 u2 = some (.tup []) := by rw [← hH]; exact upd_same
    clear hH
    have k2 : Same H H2 := k1.trans s2
    replace e1 := s2 _ _ e1
    refine ⟨(by show 6 ≤ sizeLine; decide), fun u3 n3 => ?_⟩
    generalize hH : upd _ u3 _ = H3
    have s3 : Same H2 H3 := by rw [← hH]; exact put_same n3
    have e3 : H3 u3 = some (.lst [.int 0, .int 1, .non, .str "True", .ref u1, .ref u2]) := by rw [← hH]; exact upd_same
    clear hH
    have k3 : Same H H3 := k2.trans s3
    replace e1 := s3 _ _ e1
    replace e2 := s3 _ _ e2
    refine ⟨(by show 1 ≤ sizeLine; decide), fun u4 n4 => ?_⟩
    generalize hH : upd _ u4 _ = H4
    have s4 : Same H3 H4 := by rw [← hH]; exact put_same n4
    have e4 : H4 u4 = some (.tup [.str "none"]) := by rw [← hH]; exact upd_same
    clear hH
    have k4 : Same H H4 := k3.trans s4
    replace e1 := s4 _ _ e1
    replace e2 := s4 _ _ e2
    replace e3 := s4 _ _ e3
    refine ⟨(by show 1 ≤ sizeLine; decide), fun u5 n5 => ?_⟩
    generalize hH : upd _ u5 _ = H5
    have s5 : Same H4 H5 := by rw [← hH]; exact put_same n5
    have e5 : H5 u5 = some (.lst [.str "all"]) := by rw [← hH]; exact upd_same
    clear hH
    have k5 : Same H H5 := k4.trans s5
    replace e1 := s5 _ _ e1
    replace e2 := s5 _ _ e2
    replace e3 := s5 _ _ e3
    replace e4 := s5 _ _ e4
    refine ⟨(by show 8 ≤ sizeLine; decide), fun u6 n6 => ?_⟩
    generalize hH : upd _ u6 _ = H6
    have s6 : Same H5 H6 := by rw [← hH]; exact put_same n6
    have e6 : H6 u6 = some (.lst [.str "None", .str "", .non, .int 0, .bl true, .ref u4, .str "alls", .ref u5]) := by rw [← hH]; exact upd_same
    clear hH
    have k6 : Same H H6 := k5.trans s6
    replace e1 := s6 _ _ e1
    replace e2 := s6 _ _ e2
    replace e3 := s6 _ _ e3
    replace e4 := s6 _ _ e4
    replace e5 := s6 _ _ e5
    refine ⟨_, rfl, _, rfl, _, _, rfl, rfl, ⟨by decide, by decide, by decide⟩, (by show 0 ≤ sizeLine; decide), fun u7 n7 => ?_⟩
    generalize hH : upd _ u7 _ = H7
    have s7 : Same H6 H7 := by rw [← hH]; exact put_same n7
    have e7 : H7 u7 = some (.lst []) := by rw [← hH]; exact upd_same
    clear hH
    have k7 : Same H H7 := k6.trans s7
    replace e1 := s7 _ _ e1
    replace e2 := s7 _ _ e2
    replace e3 := s7 _ _ e3
    replace e4 := s7 _ _ e4
    replace e5 := s7 _ _ e5
    replace e6 := s7 _ _ e6
    refine ⟨(by show 7 ≤ sizeLine; decide), fun u8 n8 => ?_⟩
    generalize hH : upd _ u8 _ = H8
    have s8 : Same H7 H8 := by rw [← hH]; exact put_same n8
    have e8 : H8 u8 = some (.lst [.int (-1), .int 9, .bl true, .non, .str "1", .int 1000000000000000000000000000000, .ref u7]) := by rw [← hH]; exact upd_same
    clear hH
    have k8 : Same H H8 := k7.trans s8
    replace e1 := s8 _ _ e1
    replace e2 := s8 _ _ e2
    replace e3 := s8 _ _ e3
    replace e4 := s8 _ _ e4
    replace e5 := s8 _ _ e5
    replace e6 := s8 _ _ e6
    replace e7 := s8 _ _ e7
    refine ⟨(by show 3 ≤ sizeLine; decide), fun u9 n9 => ?_⟩
    generalize hH : upd _ u9 _ = H9
    have s9 : Same H8 H9 := by rw [← hH]; exact put_same n9
    have e9 : H9 u9 = some (.lst [.ref u6, .ref u3, .ref u8]) := by rw [← hH]; exact upd_same
    clear hH
    have k9 : Same H H9 := k8.trans s9
    replace e1 := s9 _ _ e1
    replace e2 := s9 _ _ e2
    replace e3 := s9 _ _ e3
    replace e4 := s9 _ _ e4
    replace e5 := s9 _ _ e5
    replace e6 := s9 _ _ e6
    replace e7 := s9 _ _ e7
    replace e8 := s9 _ _ e8
    refine ⟨_, rfl, _, rfl, _, rfl, (by show 0 ≤ sizeLine; decide), fun u10 n10 => ?_⟩
    generalize hH : upd _ u10 _ = H10
    have s10 : Same H9 H10 := by rw [← hH]; exact put_same n10
    have e10 : H10 u10 = some (.lst []) := by rw [← hH]; exact upd_same
    clear hH
    have k10 : Same H H10 := k9.trans s10
    replace e1 := s10 _ _ e1
    replace e2 := s10 _ _ e2
    replace e3 := s10 _ _ e3
    replace e4 := s10 _ _ e4
    replace e5 := s10 _ _ e5
    replace e6 := s10 _ _ e6
    replace e7 := s10 _ _ e7
    replace e8 := s10 _ _ e8
    replace e9 := s10 _ _ e9
    refine ⟨(by show 1 ≤ sizeLine; decide), fun u11 n11 => ?_⟩
    generalize hH : upd _ u11 _ = H11
    have s11 : Same H10 H11 := by rw [← hH]; exact put_same n11
    have e11 : H11 u11 = some (.tup [.str "next"]) := by rw [← hH]; exact upd_same
    clear hH
    have k11 : Same H H11 := k10.trans s11
    replace e1 := s11 _ _ e1
    replace e2 := s11 _ _ e2
    replace e3 := s11 _ _ e3
    replace e4 := s11 _ _ e4
    replace e5 := s11 _ _ e5
    replace e6 := s11 _ _ e6
    replace e7 := s11 _ _ e7
    replace e8 := s11 _ _ e8
    replace e9 := s11 _ _ e9
    replace e10 := s11 _ _ e10
    refine ⟨(by show 8 ≤ sizeLine; decide), fun u12 n12 => ?_⟩
    generalize hH : upd _ u12 _ = H12
    have s12 : Same H11 H12 := by rw [← hH]; exact put_same n12
    have e12 : H12 u12 = some (.lst [.str "", .str "First", .non, .int 0, .bl true, .ref u10, .str "nexts", .ref u11]) := by rw [← hH]; exact upd_same
    clear hH
    have k12 : Same H H12 := k11.trans s12
    replace e1 := s12 _ _ e1
    replace e2 := s12 _ _ e2
    replace e3 := s12 _ _ e3
    replace e4 := s12 _ _ e4
    replace e5 := s12 _ _ e5
    replace e6 := s12 _ _ e6
    replace e7 := s12 _ _ e7
    replace e8 := s12 _ _ e8
    replace e9 := s12 _ _ e9
    replace e10 := s12 _ _ e10
    replace e11 := s12 _ _ e11
    refine ⟨(by show 3 ≤ sizeLine; decide), fun u13 n13 => ?_⟩
    generalize hH : upd _ u13 _ = H13
    have s13 : Same H12 H13 := by rw [← hH]; exact put_same n13
    have e13 : H13 u13 = some (.lst [.ref u3, .ref u3, .ref u12]) := by rw [← hH]; exact upd_same
    clear hH
    have k13 : Same H H13 := k12.trans s13
    replace e1 := s13 _ _ e1
    replace e2 := s13 _ _ e2
    replace e3 := s13 _ _ e3
    replace e4 := s13 _ _ e4
    replace e5 := s13 _ _ e5
    replace e6 := s13 _ _ e6
    replace e7 := s13 _ _ e7
    replace e8 := s13 _ _ e8
    replace e9 := s13 _ _ e9
    replace e10 := s13 _ _ e10
    replace e11 := s13 _ _ e11
    replace e12 := s13 _ _ e12
    refine ⟨u9, u13, _, _, rfl, rfl, e9, e13, (by show 6 ≤ sizeLine; decide), fun u14 n14 => ?_⟩
    generalize hH : upd _ u14 _ = H14
    have s14 : Same H13 H14 := by rw [← hH]; exact put_same n14
    have e14 : H14 u14 = some (.lst [.ref u6, .ref u3, .ref u8, .ref u3, .ref u3, .ref u12]) := by rw [← hH]; exact upd_same
    clear hH
    have k14 : Same H H14 := k13.trans s14
    replace e1 := s14 _ _ e1
    replace e2 := s14 _ _ e2
    replace e3 := s14 _ _ e3
    replace e4 := s14 _ _ e4
    replace e5 := s14 _ _ e5
    replace e6 := s14 _ _ e6
    replace e7 := s14 _ _ e7
    replace e8 := s14 _ _ e8
    replace e9 := s14 _ _ e9
    replace e10 := s14 _ _ e10
    replace e11 := s14 _ _ e11
    replace e12 := s14 _ _ e12
    replace e13 := s14 _ _ e13
    refine ⟨_, rfl, _, rfl, _, _, rfl, rfl, ⟨by decide, by decide, by decide⟩, (by show 7 ≤ sizeLine; decide), fun u15 n15 => ?_⟩
    generalize hH : upd _ u15 _ = H15
    have s15 : Same H14 H15 := by rw [← hH]; exact put_same n15
    have e15 : H15 u15 = some (.lst [.int 0, .int 33, .bl true, .non, .int (-1), .str "5", .int 1000000000000000000000000000000000000000]) := by rw [← hH]; exact upd_same
    clear hH
    have k15 : Same H H15 := k14.trans s15
    replace e1 := s15 _ _ e1
    replace e2 := s15 _ _ e2
    replace e3 := s15 _ _ e3
    replace e4 := s15 _ _ e4
    replace e5 := s15 _ _ e5
    replace e6 := s15 _ _ e6
    replace e7 := s15 _ _ e7
    replace e8 := s15 _ _ e8
    replace e9 := s15 _ _ e9
    replace e10 := s15 _ _ e10
    replace e11 := s15 _ _ e11
    replace e12 := s15 _ _ e12
    replace e13 := s15 _ _ e13
    replace e14 := s15 _ _ e14
    refine ⟨(by show 1 ≤ sizeLine; decide), fun u16 n16 => ?_⟩
    generalize hH : upd _ u16 _ = H16
    have s16 : Same H15 H16 := by rw [← hH]; exact put_same n16
    have e16 : H16 u16 = some (.lst [.ref u15]) := by rw [← hH]; exact upd_same
    clear hH
    have k16 : Same H H16 := k15.trans s16
    replace e1 := s16 _ _ e1
    replace e2 := s16 _ _ e2
    replace e3 := s16 _ _ e3
    replace e4 := s16 _ _ e4
    replace e5 := s16 _ _ e5
    replace e6 := s16 _ _ e6
    replace e7 := s16 _ _ e7
    replace e8 := s16 _ _ e8
    replace e9 := s16 _ _ e9
    replace e10 := s16 _ _ e10
    replace e11 := s16 _ _ e11
    replace e12 := s16 _ _ e12
    replace e13 := s16 _ _ e13
    replace e14 := s16 _ _ e14
    replace e15 := s16 _ _ e15
    refine ⟨u16, _, _, rfl, rfl, e16, by decide, by decide, (by show 2 ≤ sizeLine; decide), fun u17 n17 => ?_⟩
    generalize hH : upd _ u17 _ = H17
    have s17 : Same H16 H17 := by rw [← hH]; exact put_same n17
    have e17 : H17 u17 = some (.lst [.ref u15, .ref u15]) := by rw [← hH]; exact upd_same
    clear hH
    have k17 : Same H H17 := k16.trans s17
    replace e1 := s17 _ _ e1
    replace e2 := s17 _ _ e2
    replace e3 := s17 _ _ e3
    replace e4 := s17 _ _ e4
    replace e5 := s17 _ _ e5
    replace e6 := s17 _ _ e6
    replace e7 := s17 _ _ e7
    replace e8 := s17 _ _ e8
    replace e9 := s17 _ _ e9
    replace e10 := s17 _ _ e10
    replace e11 := s17 _ _ e11
    replace e12 := s17 _ _ e12
    replace e13 := s17 _ _ e13
    replace e14 := s17 _ _ e14
    replace e15 := s17 _ _ e15
    replace e16 := s17 _ _ e16
    refine ⟨u14, u17, _, _, rfl, rfl, e14, e17, (by show 8 ≤ sizeLine; decide), fun u18 n18 => ?_⟩
    generalize hH : upd _ u18 _ = H18
    have s18 : Same H17 H18 := by rw [← hH]; exact put_same n18
    have e18 : H18 u18 = some (.lst [.ref u6, .ref u3, .ref u8, .ref u3, .ref u3, .ref u12, .ref u15, .ref u15]) := by rw [← hH]; exact upd_same
    clear hH
    have k18 : Same H H18 := k17.trans s18
    replace e1 := s18 _ _ e1
    replace e2 := s18 _ _ e2
    replace e3 := s18 _ _ e3
    replace e4 := s18 _ _ e4
    replace e5 := s18 _ _ e5
    replace e6 := s18 _ _ e6
    replace e7 := s18 _ _ e7
    replace e8 := s18 _ _ e8
    replace e9 := s18 _ _ e9
    replace e10 := s18 _ _ e10
    replace e11 := s18 _ _ e11
    replace e12 := s18 _ _ e12
    replace e13 := s18 _ _ e13
    replace e14 := s18 _ _ e14
    replace e15 := s18 _ _ e15
    replace e16 := s18 _ _ e16
    replace e17 := s18 _ _ e17
    refine ⟨(by show 0 ≤ sizeLine; decide), fun u19 n19 => ?_⟩
    generalize hH : upd _ u19 _ = H19
    have s19 : Same H18 H19 := by rw [← hH]; exact put_same n19
    have e19 : H19 u19 = some (.tup []) := by rw [← hH]; exact upd_same
    clear hH
    have k19 : Same H H19 := k18.trans s19
    replace e1 := s19 _ _ e1
    replace e2 := s19 _ _ e2
    replace e3 := s19 _ _ e3
    replace e4 := s19 _ _ e4
    replace e5 := s19 _ _ e5
    replace e6 := s19 _ _ e6
    replace e7 := s19 _ _ e7
    replace e8 := s19 _ _ e8
    replace e9 := s19 _ _ e9
    replace e10 := s19 _ _ e10
    replace e11 := s19 _ _ e11
    replace e12 := s19 _ _ e12
    replace e13 := s19 _ _ e13
    replace e14 := s19 _ _ e14
    replace e15 := s19 _ _ e15
    replace e16 := s19 _ _ e16
    replace e17 := s19 _ _ e17
    replace e18 := s19 _ _ e18
    refine ⟨(by show 0 ≤ sizeLine; decide), fun u20 n20 => ?_⟩
    generalize hH : upd _ u20 _ = H20
    have s20 : Same H19 H20 := by rw [← hH]; exact put_same n20
    have e20 : H20 u20 = some (.lst []) := by rw [← hH]; exact upd_same
    clear hH
    have k20 : Same H H20 := k19.trans s20
    replace e1 := s20 _ _ e1
    replace e2 := s20 _ _ e2
    replace e3 := s20 _ _ e3
    replace e4 := s20 _ _ e4
    replace e5 := s20 _ _ e5
    replace e6 := s20 _ _ e6
    replace e7 := s20 _ _ e7
    replace e8 := s20 _ _ e8
    replace e9 := s20 _ _ e9
    replace e10 := s20 _ _ e10
    replace e11 := s20 _ _ e11
    replace e12 := s20 _ _ e12
    replace e13 := s20 _ _ e13
    replace e14 := s20 _ _ e14
    replace e15 := s20 _ _ e15
    replace e16 := s20 _ _ e16
    replace e17 := s20 _ _ e17
    replace e18 := s20 _ _ e18
    replace e19 := s20 _ _ e19
    refine ⟨(by show 1 ≤ sizeLine; decide), fun u21 n21 => ?_⟩
    generalize hH : upd _ u21 _ = H21
    have s21 : Same H20 H21 := by rw [← hH]; exact put_same n21
    have e21 : H21 u21 = some (.tup [.str "to"]) := by rw [← hH]; exact upd_same
    clear hH
    have k21 : Same H H21 := k20.trans s21
    replace e1 := s21 _ _ e1
    replace e2 := s21 _ _ e2
    replace e3 := s21 _ _ e3
    replace e4 := s21 _ _ e4
    replace e5 := s21 _ _ e5
    replace e6 := s21 _ _ e6
    replace e7 := s21 _ _ e7
    replace e8 := s21 _ _ e8
    replace e9 := s21 _ _ e9
    replace e10 := s21 _ _ e10
    replace e11 := s21 _ _ e11
    replace e12 := s21 _ _ e12
    replace e13 := s21 _ _ e13
    replace e14 := s21 _ _ e14
    replace e15 := s21 _ _ e15
    replace e16 := s21 _ _ e16
    replace e17 := s21 _ _ e17
    replace e18 := s21 _ _ e18
    replace e19 := s21 _ _ e19
    replace e20 := s21 _ _ e20
    refine ⟨(by show 7 ≤ sizeLine; decide), fun u22 n22 => ?_⟩
    generalize hH : upd _ u22 _ = H22
    have s22 : Same H21 H22 := by rw [← hH]; exact put_same n22
    have e22 : H22 u22 = some (.lst [.ref u19, .str "", .int 0, .bl true, .ref u20, .bl false, .ref u21]) := by rw [← hH]; exact upd_same
    clear hH
    have k22 : Same H H22 := k21.trans s22
    replace e1 := s22 _ _ e1
    replace e2 := s22 _ _ e2
    replace e3 := s22 _ _ e3
    replace e4 := s22 _ _ e4
    replace e5 := s22 _ _ e5
    replace e6 := s22 _ _ e6
    replace e7 := s22 _ _ e7
    replace e8 := s22 _ _ e8
    replace e9 := s22 _ _ e9
    replace e10 := s22 _ _ e10
    replace e11 := s22 _ _ e11
    replace e12 := s22 _ _ e12
    replace e13 := s22 _ _ e13
    replace e14 := s22 _ _ e14
    replace e15 := s22 _ _ e15
    replace e16 := s22 _ _ e16
    replace e17 := s22 _ _ e17
    replace e18 := s22 _ _ e18
    replace e19 := s22 _ _ e19
    replace e20 := s22 _ _ e20
    replace e21 := s22 _ _ e21
    refine ⟨(by show 1 ≤ sizeLine; decide), fun u23 n23 => ?_⟩
    generalize hH : upd _ u23 _ = H23
    have s23 : Same H22 H23 := by rw [← hH]; exact put_same n23
    have e23 : H23 u23 = some (.lst [.ref u22]) := by rw [← hH]; exact upd_same
    clear hH
    have k23 : Same H H23 := k22.trans s23
    replace e1 := s23 _ _ e1
    replace e2 := s23 _ _ e2
    replace e3 := s23 _ _ e3
    replace e4 := s23 _ _ e4
    replace e5 := s23 _ _ e5
    replace e6 := s23 _ _ e6
    replace e7 := s23 _ _ e7
    replace e8 := s23 _ _ e8
    replace e9 := s23 _ _ e9
    replace e10 := s23 _ _ e10
    replace e11 := s23 _ _ e11
    replace e12 := s23 _ _ e12
    replace e13 := s23 _ _ e13
    replace e14 := s23 _ _ e14
    replace e15 := s23 _ _ e15
    replace e16 := s23 _ _ e16
    replace e17 := s23 _ _ e17
    replace e18 := s23 _ _ e18
    replace e19 := s23 _ _ e19
    replace e20 := s23 _ _ e20
    replace e21 := s23 _ _ e21
    replace e22 := s23 _ _ e22
    refine ⟨u18, u23, _, _, rfl, rfl, e18, e23, (by show 9 ≤ sizeLine; decide), fun u24 n24 => ?_⟩
    generalize hH : upd _ u24 _ = H24
    have s24 : Same H23 H24 := by rw [← hH]; exact put_same n24
    have e24 : H24 u24 = some (.lst [.ref u6, .ref u3, .ref u8, .ref u3, .ref u3, .ref u12, .ref u15, .ref u15, .ref u22]) := by rw [← hH]; exact upd_same
    clear hH
    have k24 : Same H H24 := k23.trans s24
    replace e1 := s24 _ _ e1
    replace e2 := s24 _ _ e2
    replace e3 := s24 _ _ e3
    replace e4 := s24 _ _ e4
    replace e5 := s24 _ _ e5
    replace e6 := s24 _ _ e6
    replace e7 := s24 _ _ e7
    replace e8 := s24 _ _ e8
    replace e9 := s24 _ _ e9
    replace e10 := s24 _ _ e10
    replace e11 := s24 _ _ e11
    replace e12 := s24 _ _ e12
    replace e13 := s24 _ _ e13
    replace e14 := s24 _ _ e14
    replace e15 := s24 _ _ e15
    replace e16 := s24 _ _ e16
    replace e17 := s24 _ _ e17
    replace e18 := s24 _ _ e18
    replace e19 := s24 _ _ e19
    replace e20 := s24 _ _ e20
    replace e21 := s24 _ _ e21
    replace e22 := s24 _ _ e22
    replace e23 := s24 _ _ e23
    have bf : BagS H24 b := hb.mon k24
    have c : at_ = 0 ∨ at_ = 1 ∨ at_ = 2 ∨ at_ = 3 ∨ at_ = 4 ∨ at_ = 5 ∨ at_ = 6 ∨ at_ = 7 ∨ at_ = 8 := by omega
    rcases c with rfl | rfl | rfl | rfl | rfl | rfl | rfl | rfl | rfl
    · refine ⟨_, rfl, _, rfl, _, rfl, u24, _, _, .ref u6, rfl, rfl, SqL.of e24, rfl, b, u6, _, rfl, bf, e6, (show 3 ≤ 8 by decide), (show 8 < 1000 by decide), fun x H' hx hb' sb' => ?_⟩
      have pr : Paired (DpS K (NewIn H) H24) [.str "None", .str "", .non, .int 0, .bl true, .ref u4, .str "alls", .ref u5] (oddL 0) := (.cons (dpS_f (.str _)) (.cons (dpS_f (.str _)) (.cons (dpS_f .non) (.cons (dpS_f (.int _)) (.cons (dpS_f (.bl _)) (.cons (dpS_t e4 (show NewIn H u4 from k3.free n4) (.cons (dpS_f (.str _)) .nil)) (.cons (dpS_f (.str _)) (.cons (dpS_l e5 (show NewIn H u5 from k4.free n5) (.cons (dpS_f (.str _)) .nil)) .nil))))))))
      obtain ⟨d, hd, q⟩ := dpS_mem pr hx
      exact k H' x d hb' ((sb b k24).trans sb') hd (dpS_mv q fun q' o hq e => sb' q' o (fun z => by obtain ⟨_, _, w, _⟩ := hb; rw [z] at hq; unfold NewIn at hq; rw [w] at hq; cases hq) e)
    · refine ⟨_, rfl, _, rfl, _, rfl, u24, _, _, .ref u3, rfl, rfl, SqL.of e24, rfl, b, u3, _, rfl, bf, e3, (show 3 ≤ 6 by decide), (show 6 < 1000 by decide), fun x H' hx hb' sb' => ?_⟩
      have pr : Paired (DpS K (NewIn H) H24) [.int 0, .int 1, .non, .str "True", .ref u1, .ref u2] (oddL 1) := (.cons (dpS_f (.int _)) (.cons (dpS_f (.int _)) (.cons (dpS_f .non) (.cons (dpS_f (.str _)) (.cons (dpS_l e1 (show NewIn H u1 from n1) .nil) (.cons (dpS_t e2 (show NewIn H u2 from k1.free n2) .nil) .nil))))))
      obtain ⟨d, hd, q⟩ := dpS_mem pr hx
      exact k H' x d hb' ((sb b k24).trans sb') hd (dpS_mv q fun q' o hq e => sb' q' o (fun z => by obtain ⟨_, _, w, _⟩ := hb; rw [z] at hq; unfold NewIn at hq; rw [w] at hq; cases hq) e)
    · refine ⟨_, rfl, _, rfl, _, rfl, u24, _, _, .ref u8, rfl, rfl, SqL.of e24, rfl, b, u8, _, rfl, bf, e8, (show 3 ≤ 7 by decide), (show 7 < 1000 by decide), fun x H' hx hb' sb' => ?_⟩
      have pr : Paired (DpS K (NewIn H) H24) [.int (-1), .int 9, .bl true, .non, .str "1", .int 1000000000000000000000000000000, .ref u7] (oddL 2) := (.cons (dpS_f (.int _)) (.cons (dpS_f (.int _)) (.cons (dpS_f (.bl _)) (.cons (dpS_f .non) (.cons (dpS_f (.str _)) (.cons (dpS_f (.int _)) (.cons (dpS_l e7 (show NewIn H u7 from k6.free n7) .nil) .nil)))))))
      obtain ⟨d, hd, q⟩ := dpS_mem pr hx
      exact k H' x d hb' ((sb b k24).trans sb') hd (dpS_mv q fun q' o hq e => sb' q' o (fun z => by obtain ⟨_, _, w, _⟩ := hb; rw [z] at hq; unfold NewIn at hq; rw [w] at hq; cases hq) e)
    · refine ⟨_, rfl, _, rfl, _, rfl, u24, _, _, .ref u3, rfl, rfl, SqL.of e24, rfl, b, u3, _, rfl, bf, e3, (show 3 ≤ 6 by decide), (show 6 < 1000 by decide), fun x H' hx hb' sb' => ?_⟩
      have pr : Paired (DpS K (NewIn H) H24) [.int 0, .int 1, .non, .str "True", .ref u1, .ref u2] (oddL 3) := (.cons (dpS_f (.int _)) (.cons (dpS_f (.int _)) (.cons (dpS_f .non) (.cons (dpS_f (.str _)) (.cons (dpS_l e1 (show NewIn H u1 from n1) .nil) (.cons (dpS_t e2 (show NewIn H u2 from k1.free n2) .nil) .nil))))))
      obtain ⟨d, hd, q⟩ := dpS_mem pr hx
      exact k H' x d hb' ((sb b k24).trans sb') hd (dpS_mv q fun q' o hq e => sb' q' o (fun z => by obtain ⟨_, _, w, _⟩ := hb; rw [z] at hq; unfold NewIn at hq; rw [w] at hq; cases hq) e)
    · refine ⟨_, rfl, _, rfl, _, rfl, u24, _, _, .ref u3, rfl, rfl, SqL.of e24, rfl, b, u3, _, rfl, bf, e3, (show 3 ≤ 6 by decide), (show 6 < 1000 by decide), fun x H' hx hb' sb' => ?_⟩
      have pr : Paired (DpS K (NewIn H) H24) [.int 0, .int 1, .non, .str "True", .ref u1, .ref u2] (oddL 4) := (.cons (dpS_f (.int _)) (.cons (dpS_f (.int _)) (.cons (dpS_f .non) (.cons (dpS_f (.str _)) (.cons (dpS_l e1 (show NewIn H u1 from n1) .nil) (.cons (dpS_t e2 (show NewIn H u2 from k1.free n2) .nil) .nil))))))
      obtain ⟨d, hd, q⟩ := dpS_mem pr hx
      exact k H' x d hb' ((sb b k24).trans sb') hd (dpS_mv q fun q' o hq e => sb' q' o (fun z => by obtain ⟨_, _, w, _⟩ := hb; rw [z] at hq; unfold NewIn at hq; rw [w] at hq; cases hq) e)
    · refine ⟨_, rfl, _, rfl, _, rfl, u24, _, _, .ref u12, rfl, rfl, SqL.of e24, rfl, b, u12, _, rfl, bf, e12, (show 3 ≤ 8 by decide), (show 8 < 1000 by decide), fun x H' hx hb' sb' => ?_⟩
      have pr : Paired (DpS K (NewIn H) H24) [.str "", .str "First", .non, .int 0, .bl true, .ref u10, .str "nexts", .ref u11] (oddL 5) := (.cons (dpS_f (.str _)) (.cons (dpS_f (.str _)) (.cons (dpS_f .non) (.cons (dpS_f (.int _)) (.cons (dpS_f (.bl _)) (.cons (dpS_l e10 (show NewIn H u10 from k9.free n10) .nil) (.cons (dpS_f (.str _)) (.cons (dpS_t e11 (show NewIn H u11 from k10.free n11) (.cons (dpS_f (.str _)) .nil)) .nil))))))))
      obtain ⟨d, hd, q⟩ := dpS_mem pr hx
      exact k H' x d hb' ((sb b k24).trans sb') hd (dpS_mv q fun q' o hq e => sb' q' o (fun z => by obtain ⟨_, _, w, _⟩ := hb; rw [z] at hq; unfold NewIn at hq; rw [w] at hq; cases hq) e)
    · refine ⟨_, rfl, _, rfl, _, rfl, u24, _, _, .ref u15, rfl, rfl, SqL.of e24, rfl, b, u15, _, rfl, bf, e15, (show 3 ≤ 7 by decide), (show 7 < 1000 by decide), fun x H' hx hb' sb' => ?_⟩
      have pr : Paired (DpS K (NewIn H) H24) [.int 0, .int 33, .bl true, .non, .int (-1), .str "5", .int 1000000000000000000000000000000000000000] (oddL 6) := (.cons (dpS_f (.int _)) (.cons (dpS_f (.int _)) (.cons (dpS_f (.bl _)) (.cons (dpS_f .non) (.cons (dpS_f (.int _)) (.cons (dpS_f (.str _)) (.cons (dpS_f (.int _)) .nil)))))))
      obtain ⟨d, hd, q⟩ := dpS_mem pr hx
      exact k H' x d hb' ((sb b k24).trans sb') hd (dpS_mv q fun q' o hq e => sb' q' o (fun z => by obtain ⟨_, _, w, _⟩ := hb; rw [z] at hq; unfold NewIn at hq; rw [w] at hq; cases hq) e)
    · refine ⟨_, rfl, _, rfl, _, rfl, u24, _, _, .ref u15, rfl, rfl, SqL.of e24, rfl, b, u15, _, rfl, bf, e15, (show 3 ≤ 7 by decide), (show 7 < 1000 by decide), fun x H' hx hb' sb' => ?_⟩
      have pr : Paired (DpS K (NewIn H) H24) [.int 0, .int 33, .bl true, .non, .int (-1), .str "5", .int 1000000000000000000000000000000000000000] (oddL 7) := (.cons (dpS_f (.int _)) (.cons (dpS_f (.int _)) (.cons (dpS_f (.bl _)) (.cons (dpS_f .non) (.cons (dpS_f (.int _)) (.cons (dpS_f (.str _)) (.cons (dpS_f (.int _)) .nil)))))))
      obtain ⟨d, hd, q⟩ := dpS_mem pr hx
      exact k H' x d hb' ((sb b k24).trans sb') hd (dpS_mv q fun q' o hq e => sb' q' o (fun z => by obtain ⟨_, _, w, _⟩ := hb; rw [z] at hq; unfold NewIn at hq; rw [w] at hq; cases hq) e)
    · refine ⟨_, rfl, _, rfl, _, rfl, u24, _, _, .ref u22, rfl, rfl, SqL.of e24, rfl, b, u22, _, rfl, bf, e22, (show 3 ≤ 7 by decide), (show 7 < 1000 by decide), fun x H' hx hb' sb' => ?_⟩
      have pr : Paired (DpS K (NewIn H) H24) [.ref u19, .str "", .int 0, .bl true, .ref u20, .bl false, .ref u21] (oddL 8) := (.cons (dpS_t e19 (show NewIn H u19 from k18.free n19) .nil) (.cons (dpS_f (.str _)) (.cons (dpS_f (.int _)) (.cons (dpS_f (.bl _)) (.cons (dpS_l e20 (show NewIn H u20 from k19.free n20) .nil) (.cons (dpS_f (.bl _)) (.cons (dpS_t e21 (show NewIn H u21 from k20.free n21) (.cons (dpS_f (.str _)) .nil)) .nil)))))))
      obtain ⟨d, hd, q⟩ := dpS_mem pr hx
      exact k H' x d hb' ((sb b k24).trans sb') hd (dpS_mv q fun q' o hq e => sb' q' o (fun z => by obtain ⟨_, _, w, _⟩ := hb; rw [z] at hq; unfold NewIn at hq; rw [w] at hq; cases hq) e)
end Sc
/-! repr of any data, and {x!r} of it. -/
namespace Gu
open PySem PySem.Spec PyProof.Rows L2
theorem shows_len {d : PyData} (h : Shows d) : d.shown.length ≤ sizeLine := Nat.le_trans (shown_le13 h.1 h.2.2) (by decide)
theorem shows_int {i : Int} (h : Shows (.int i)) : i.natAbs.log2 < 1920 := by simpa [PyData.showable] using h.2.1
section
variable {X : Cx}
def rReprA (K : PySem.W.Frag) : List V → Hp → VK → Prop := fun xs H Q => ∃ x d, xs = [x] ∧ Dp K H x d ∧ Shows d ∧ Q (.str d.shown) H
theorem call_reprA (hG : X.A.guards = some []) (hr : X.A.units + 65 < cLine) : CallR X (.builtin "repr") (rReprA X.K) := by
  rintro pins s σ H xs us Q I r ⟨x, d, rfl, hd, sh, q⟩
  cases d with
  | none =>
    cases hd
    obtain ⟨u, rfl, ru⟩ := vals1 r
    obtain rfl : u = Value.none := ru
    exact P.repr_of_none ⟨.str "None", H, I.tok _, ⟨_, rfl⟩, q⟩
  | bool b =>
    cases hd
    refine call_reprB pins s σ H _ us Q I r ⟨b, rfl, ?_⟩
    have e : (if b then "True" else "False" : Str) = (PyData.bool b).shown := by cases b <;> rfl
    cases b <;> exact q
  | int i =>
    cases hd
    obtain ⟨u, rfl, t, rfl⟩ := vals1 r
    exact P.repr_of_int (shows_int sh) ⟨.str _, H, I.tok _, ⟨_, rfl⟩, q⟩
  | str z =>
    cases hd
    obtain ⟨u, rfl, t, rfl⟩ := vals1 r
    exact P.repr_of_str ⟨.str (reprText z), H, I.tok _, ⟨_, rfl⟩, q⟩ (shows_len sh)
  | list ds =>
    cases hd with
    | lst h1 h2 => exact call_reprD hG hr pins s σ H _ us Q I r ⟨_, _, rfl, .lst h1 h2, sh, q⟩
  | tuple ds =>
    cases hd with
    | tup h1 h2 => exact call_reprD hG hr pins s σ H _ us Q I r ⟨_, _, rfl, .tup h1 h2, sh, q⟩
  | dict _ => cases hd
/-- {x!r} -/
def tFmtRA (K : PySem.W.Frag) (te : TE) : TE := fun σ H Q => te σ H fun x H1 => ∃ d, Dp K H1 x d ∧ Shows d ∧ Q (.str d.shown) H1
theorem fmt_data {pins : List (Addr × Obj)} {σ : L2.St} {H1 : Hp} {s1 : Shared} {Q : VK} {x : V} {v : Value} {d : PyData} (hG : X.A.guards = some []) (hr : X.A.units + 65 < cLine) (I1 : Inv X pins σ H1 s1) (r1 : RelV x v) (hd : Dp X.K H1 x d) (sh : Shows d) (q : Q (.str d.shown) H1) :
    wpAny (model X.prog X.w) X.A (pyReprObj v) (fun t s2 => wpAny (model X.prog X.w) X.A (formatField t Str.empty) (EP X pins σ Q) X.xe s2) X.xe s1 := by
  have hz := shows_len sh
  have fin : ∀ {s2 : Shared} {y : Str} (u : Tok), y = d.shown → Inv X pins σ H1 s2 → wpAny (model X.prog X.w) X.A (formatField (.str y u) Str.empty) (EP X pins σ Q) X.xe s2 := fun {s2 y} u e I2 => by
    subst e
    exact wpAny_formatField_str ⟨.str d.shown, H1, I2, ⟨u, rfl⟩, q⟩ ⟨.str d.shown, H1, I2.tok _, ⟨_, rfl⟩, q⟩ hz
  have viaRef : ∀ (a : Addr), x = .ref a → wpAny (model X.prog X.w) X.A (pyReprObj (.ref a)) (fun t s2 => wpAny (model X.prog X.w) X.A (formatField t Str.empty) (EP X pins σ Q) X.xe s2) X.xe s1 := fun a e => by
    subst e
    obtain ⟨as, rd⟩ := Dp.reads I1 d (.ref a) (.ref a) hd rfl
    refine pyReprObj_of_reads rd sh.2.1 (PyData.noDict_hsm (PyData.hasDict_of_layable sh.1)) hG (by have := PyData.depth_le_of_layable sh.1; omega) (fun _ _ e => e) (fun h' u tk hk => fin u rfl (I1.kept hk)) hz
  cases d with
  | none =>
    cases hd
    obtain rfl : v = Value.none := r1
    exact pyReprObj_none (fin _ rfl (I1.tok _))
  | bool b =>
    cases hd
    obtain rfl : v = Value.bool b := r1
    exact pyReprObj_bool (fin _ (by cases b <;> rfl) (I1.tok _))
  | int i =>
    cases hd
    obtain ⟨t, rfl⟩ := r1
    exact pyReprObj_int (shows_int sh) (fin _ rfl (I1.tok _))
  | str z =>
    cases hd
    obtain ⟨t, rfl⟩ := r1
    exact pyReprObj_str (fin _ rfl (I1.tok _)) hz
  | list ds =>
    cases hd with
    | lst h1 h2 =>
      cases r1
      exact viaRef _ rfl
  | tuple ds =>
    cases hd with
    | tup h1 h2 =>
      cases r1
      exact viaRef _ rfl
  | dict _ => cases hd
theorem pe_fmtRA {e : Expr} {te : TE} {pos : Pos} (hG : X.A.guards = some []) (hr : X.A.units + 65 < cLine) (he : PE X e te) : PE X (.FormattedValue e 114 none pos) (tFmtRA X.K te) := by
  refine ⟨fun pins s σ H Q I h => ?_⟩
  refine wpAny_FormattedValue_repr (thn (he.run pins s σ H _ I h) fun v s1 hv => ?_)
  obtain ⟨x, H1, I1, r1, d, hd, sh, q⟩ := hv
  exact fmt_data hG hr I1 r1 hd sh q
theorem pe_fmtRAK {K : PySem.W.Frag} {e : Expr} {te : TE} {pos : Pos} (hG : X.A.guards = some []) (hr : X.A.units + 65 < cLine) (he : PE X e te) (hK : X.K = K := by rfl) : PE X (.FormattedValue e 114 none pos) (tFmtRA K te) := by
  subst hK
  exact pe_fmtRA hG hr he
end
end Gu
/-! repr of a list of instances with their own __repr__, where no repr is under way. -/
namespace Rp
open PySem PySem.Spec PyProof.Rows L2
section
variable {prog : Program} {w : World} {A : Around} {E : Value → Shared → Prop} {s : Shared} {K : PySem.W.Frag} {x C f : Addr} {ox : Obj} {od : Option Obj}
theorem by_own {M : Model} {name : Str} {last : Value → List Value → Sem Value} {Q : Option Value → Shared → Prop} (X : K.In s.heap) (I : PySem.W.InstAt s.heap x ox C od) (hs : PySem.W.findIn K (.ref C) name = some (some (.ref f))) (hf : PySem.W.isFn K (.ref f) = true)
    (h : wpAny M A (last (.ref f) [.ref x]) (fun v => Q (some v)) E s) : wpAny M A (callSpecialIfBoundBy? last (.ref x) name) Q E s := by
  have lk := PySem.W.looks_findIn (M := M) X hs
  have fin : wpAny M A (last (.ref f) [.ref x] >>= fun v => pure (some v)) Q E s := by
    refine wpAny_bind (wpAny_mono h (fun v s' q => ?_) fun _ _ q => q)
    exact wpAny_pure q
  have bd := (PySem.W.bind_fn (M := M) X (.ref x) (beq_iff_eq.mp hf))
  simp only [callSpecialIfBoundBy?, bindSpecialIfBound?]
  refine wpAny_holding (wpAny_bind (wpAny_bind (wpAny_bind (I.type.here (lk.here ?_)))))
  refine wpAny_bind (wpAny_askSetting (wpAny_ite ?_))
  split
  · exact wpAny_bind (bd.here (wpAny_pure (by exact fin)))
  · exact wpAny_tryCatch (wpAny_bind (bd.here (wpAny_pure (by exact fin))))
theorem under_own {b : Nat} {Q : Str → Shared → Prop} (hb : b ≤ sizeLine) (hu : A.units < cLine) (X : K.In s.heap) (I : PySem.W.InstAt s.heap x ox C od) (hs : PySem.W.findIn K (.ref C) "__repr__" = some (some (.ref f))) (hf : PySem.W.isFn K (.ref f) = true)
    (h : wpAny (model prog w) A (call (.ref f) [.ref x]) (fun v s' => ∃ m u, v = .str m u ∧ Q m s') E s) : wpAny (model prog w) A (pyReprUnder b (.ref x)) Q E s := by
  refine wpAny_pyReprUnder_ref hb ?_
  unfold pyReprObjUnder pyReprObjBy
  refine wpAny_bind (wpAny_cRoomFor hu ?_)
  refine wpAny_bind (wpAny_bind (I.type.here ((PySem.W.looks_findIn X hs).here ?_)))
  show wpAny _ _ (if (some (Value.ref f)).isNone = true then _ else _) _ _ _
  rw [if_neg (by simp)]
  refine wpAny_bind (by_own X I hs hf ?_)
  show wpAny _ _ (call (.ref f) ([.ref x] ++ [])) _ _ _
  refine wpAny_mono h (fun v s' hv => ?_) fun _ _ z => z
  obtain ⟨m, u, rfl, hq⟩ := hv
  refine wpAny_bind (wpAny_isInstance (T := "str") (b := true) rfl isSubtype_str_str ?_)
  first
    | exact wpAny_pure ⟨m, u, rfl, hq⟩
    | (rw [if_pos rfl]; exact wpAny_pure ⟨m, u, rfl, hq⟩)
end
section
variable {X : Cx} {n : Nat} {pins : List (Addr × Obj)} {σ : L2.St} {H : Hp} {s : Shared}
/-- what the own __repr__ promises: the text t for the instance a -/
def spRepr (R : Addr → Str → Hp → Prop) : Sp := fun vs H Q _ => ∃ a t, vs = [.ref a] ∧ R a t H ∧ ∀ H', Ext H H' → Q (.str t) H'
theorem run_repr {CX : CXT} {C f a dx : Addr} {fd : FuncData} {ps : List Str} {R : Addr → Str → Hp → Prop} {E : XK} {A : Around} {t : Str} {fs : List (Str × V)} (F : FnOk X.prog X.w X.K X.mg X.base CX n f fd ps (spRepr R)) (hb : Binds X.K fd ps []) (hx : Passes CX X E)
    (sb : Sub X n A) (I : Inv X pins σ H s) (hr : R a t H) : wpAny (model X.prog X.w) A (call (.ref f) [.ref a]) (fun v s' => ∃ m u, v = .str m u ∧ m = t ∧ ∃ H', Inv X pins σ H' s' ∧ Ext H H') X.xe s := by
  have hsp : spRepr R [.ref a] H (fun v H' => v = .str t ∧ Ext H H') E := ⟨a, t, rfl, hr, fun H' e => ⟨rfl, e⟩⟩
  have e0 : Env0 X.prog X.w X.K X.mg X.base A X.stack s H := by
    have e := I.env0
    exact ⟨by rw [sb.fr]; exact e.frames, e.mod, e.bs, e.bsz, e.funs, e.frf, e.hok, e.bare⟩
  have hl := F.len _ _ _ _ hsp
  have r2 : Vals [V.ref a] [Value.ref a] := .cons rfl .nil
  refine wpAny_call (codeAny_mono (F.run A X.stack s H ⟨[.ref a], []⟩ [.ref a] [.ref a] _ E sb.room e0 (by
    have := hb s [.ref a] I.kIn (by simpa using hl)
    simpa using this) r2 hsp) fun r s' hq => ?_)
  cases r with
  | error e => exact hx pins σ H s e s' I hq
  | ok fl =>
    cases fl with
    | ret w =>
      obtain ⟨z, H', I', rz, ez, ex⟩ := I.after hq
      subst ez
      obtain ⟨u, rfl⟩ := rz
      exact ⟨t, u, rfl, rfl, H', I', ex⟩
    | next => exact False.elim hq
    | brk => exact False.elim hq
    | cont => exact False.elim hq
theorem under_run {CX : CXT} {C f a dx : Addr} {fd : FuncData} {ps : List Str} {R : Addr → Str → Hp → Prop} {E : XK} {A : Around} {t : Str} {fs : List (Str × V)} {b : Nat} (F : FnOk X.prog X.w X.K X.mg X.base CX n f fd ps (spRepr R)) (hb : Binds X.K fd ps []) (hx : Passes CX X E)
    (hs : PySem.W.findIn X.K (.ref C) "__repr__" = some (some (.ref f))) (hf : PySem.W.isFn X.K (.ref f) = true) (sb : Sub X n A) (I : Inv X pins σ H s) (ha : H a = some (.ins C dx fs)) (hr : R a t H) (hz : b ≤ sizeLine) :
    wpAny (model X.prog X.w) A (pyReprUnder b (.ref a)) (fun m s' => m = t ∧ ∃ H', Inv X pins σ H' s' ∧ Ext H H') X.xe s := by
  obtain ⟨mA, J, _⟩ := ins_get I.hok ha
  obtain ⟨od, J, _⟩ := J.look
  exact under_own hz sb.room.units0 I.kIn J hs hf (run_repr (dx := dx) (fs := fs) (C := C) F hb hx sb I hr)
/-- the pinned list of parts grows -/
theorem bump {P : Addr} {acc : Array Value} {c : Nat} {v : Value} (I : Inv X ((P, lstObj acc c) :: pins) σ H s) (hP : X.s_0.heap.objs.size ≤ P) (hp : ∀ p ∈ X.pn ++ pins, p.1 ≠ P) :
    ∃ c', Inv X ((P, lstObj (acc.push v) c') :: pins) σ H { s with heap := s.heap.update P (Obj.mapSeq (·.push v)) } := by
  obtain ⟨h1, h2, h3, h4, h5⟩ := I.pin (P, lstObj acc c) (List.mem_append_right _ List.mem_cons_self)
  have I0 : Inv X pins σ H s := I.pins_of fun p hp => I.pin p (List.mem_append_right _ (List.mem_cons_of_mem _ hp))
  have hc : ∀ x c', X.env.cells.lookup x = some c' → c' ≠ P := fun x c' e z => by
    obtain ⟨w, o, ho, hd⟩ := I.cell x c' e
    rw [z, h1] at ho
    cases ho
    exact h5 _ hd
  have J := I0.turned (t' := s.toks) (it := P) (h' := s.heap.update P (Obj.mapSeq (·.push v))) (fun b o hb e => (Heap.get?_update_other _ _ (Ne.symm hb)).trans e) h2 h3 (.inr hP) hc hp
  obtain ⟨c', e⟩ : ∃ c', (s.heap.update P (Obj.mapSeq (·.push v))).get? P = some (lstObj (acc.push v) c') := ⟨_, Heap.get?_update_self _ h1 rfl⟩
  refine ⟨c', J.pins_of fun p hp' => ?_⟩
  rcases List.mem_cons.mp hp' with z | z
  · rw [z]
    exact ⟨e, h2, h3, h4, fun v q => by cases q⟩
  · exact J.pin p (List.mem_append_right _ z)
theorem room_loop {k : Nat} {A : Around} {args : Args} (r : Room (k + 1) A) : Room k (A.under (.builtin "list.__repr__.loop" args)) ∧ (A.under (.builtin "list.__repr__.loop" args)).frames = A.frames := by
  have hu : (A.under (.builtin "list.__repr__.loop" args)).units = A.units + 1 := units_under_list_loop A args
  have hh : (A.under (.builtin "list.__repr__.loop" args)).handled = A.handled := rfl
  have hd : (A.under (.builtin "list.__repr__.loop" args)).depth ≤ A.depth + 1 := by
    show A.depth + (Code.builtin "list.__repr__.loop" args).weight ≤ A.depth + 1
    have hw : (Code.builtin "list.__repr__.loop" args).weight ≤ 1 := by
      simp [Code.weight, Code.isCreation, Code.isCaller, Code.frames, Code.isFrame]
      try (split <;> omega)
    omega
  have hf : (A.under (.builtin "list.__repr__.loop" args)).frames = A.frames := by
    first | rfl | (show pushEnvs _ A.frames = _; cases A.frames <;> rfl) | simp [Around.under, Code.envs, pushEnvs]
  refine ⟨⟨hh.trans r.hd, ?_, ?_⟩, hf⟩
  · have := r.dp; omega
  · have := r.un; omega
theorem loop_own {CX : CXT} {C f : Addr} {fd : FuncData} {ps : List Str} {R : Addr → Str → Hp → Prop} {E : XK} {A : Around} {l P : Addr} {as : List Addr} {ts : List Str} {Q : VK} (Fr : FnOk X.prog X.w X.K X.mg X.base CX n f fd ps (spRepr R)) (hb : Binds X.K fd ps []) (hx : Passes CX X E)
    (hs : PySem.W.findIn X.K (.ref C) "__repr__" = some (some (.ref f))) (hf : PySem.W.isFn X.K (.ref f) = true) (sb : Sub X (n + 1) A) (hR : ∀ a t H H', Ext H H' → R a t H → R a t H') (hP : X.s_0.heap.objs.size ≤ P) (hp : ∀ p ∈ X.pn ++ pins, p.1 ≠ P)
    (hl : H l = some (.lst (as.map V.ref))) (hT : ∀ (i : Nat) (a : Addr), as[i]? = some a → ∃ t dx fs, ts[i]? = some t ∧ H a = some (.ins C dx fs) ∧ R a t H) (hlen : ts.length = as.length) (hsz : (listText ts).length ≤ sizeLine) (hQ : ∀ H', Ext H H' → Q (.str (listText ts)) H') :
    ∀ (k i : Nat) (s : Shared) (H' : Hp) (acc : Array Value) (c : Nat) (done : List (Str × Tok)), as.length - i = k → i ≤ as.length → Ext H H' → Inv X ((P, lstObj acc c) :: pins) σ H' s → acc.toList = strValues done → done.map (·.1) = ts.take i →
      codeAny (model X.prog X.w) A (.builtin "list.__repr__.loop" ⟨[.ref l, rawInt i, .ref P, rawInt ((piled (ts.take i) : Nat) : Int)], []⟩) (wants (fun v s' => ∃ x u, v = .str x u ∧ EP X pins σ Q v s') X.xe) s := by
  have hp3 := piled_le_listText ts
  have hL := textFrom_len ts 0 "["
  have hX : (listText ts).length = (textFrom 0 "[" ts).length + 1 := by
    show (textFrom 0 "[" ts ++ "]").length = _
    rw [strLen_append]
    rfl
  have hz2 : ∀ t ∈ ts, t.length ≤ sizeLine := fun t ht => by
    have := hL.2.1 t ht
    omega
  have hz1 : as.length ≤ sizeLine := by
    have h1 := hL.1
    rw [if_neg (Nat.lt_irrefl 0)] at h1
    omega
  intro k
  induction k with
  | zero =>
    intro i s H' acc c done hk hi he I hacc hdone
    have hin : i = as.length := by omega
    obtain ⟨_, its, z, r, e⟩ := I.hok l _ (he _ _ hl)
    have hlenI : its.length = as.length := by rw [← r.length, List.length_map]
    have pP := (I.pin (P, lstObj acc c) (List.mem_append_right _ List.mem_cons_self)).1
    refine codeAny_builtin PySem.F.entry_list_repr_loop ?_
    show wpAny _ _ (Builtin.«list.__repr__.loop» ⟨[.ref l, .int i 0, .ref P, .int ((piled (ts.take i) : Nat) : Int) 0], []⟩) _ _ s
    rw [repr_loop_tree]
    refine wpAny_bind (wpAny_listItems e rfl ?_)
    have hno : its.toArray[(i : Int).toNat]? = none := by
      rw [Int.toNat_natCast]
      simp [hin, hlenI]
    simp only [hno]
    unfold reprEnd
    refine wpAny_bind (wpAny_listItems pP rfl ?_)
    rw [hacc, repr_fold]
    refine wpAny_bind (wpAny_pure ?_)
    have hall : done.map (·.1) = ts := by rw [hdone, hin, ← hlen, List.take_length]
    rw [hall]
    refine wpAny_bind (wpAny_mkStr (wpAny_pure ?_) hsz)
    have I1 : Inv X pins σ H' s := I.pins_of fun p hp => I.pin p (List.mem_append_right _ (List.mem_cons_of_mem _ hp))
    exact ⟨_, _, rfl, .str (listText ts), H', I1.tok _, ⟨_, rfl⟩, hQ H' he⟩
  | succ k ih =>
    intro i s H' acc c done hk hi he I hacc hdone
    have hlt : i < as.length := by omega
    obtain ⟨t, dx, fs, ht, ha, hrt⟩ := hT i as[i] (List.getElem?_eq_getElem hlt)
    obtain ⟨_, its, z, r, e⟩ := I.hok l _ (he _ _ hl)
    obtain ⟨u, hu, ru⟩ := r.get (i := i) (x := V.ref as[i]) (by rw [List.getElem?_map, List.getElem?_eq_getElem hlt]; rfl)
    cases ru
    have hp1 := piled_take_succ ht
    have hp2 := piled_take_le ts (i + 1)
    refine codeAny_builtin PySem.F.entry_list_repr_loop ?_
    show wpAny _ _ (Builtin.«list.__repr__.loop» ⟨[.ref l, .int i 0, .ref P, .int ((piled (ts.take i) : Nat) : Int) 0], []⟩) _ _ s
    rw [repr_loop_tree]
    refine wpAny_bind (wpAny_listItems e rfl ?_)
    have hso : its.toArray[(i : Int).toNat]? = some (.ref as[i]) := by
      rw [Int.toNat_natCast]
      simpa using hu
    simp only [hso]
    rw [Int.toNat_natCast]
    obtain ⟨rm, fr⟩ := room_loop (args := ⟨[.ref l, rawInt i, .ref P, rawInt ((piled (ts.take i) : Nat) : Int)], []⟩) sb.room
    refine wpAny_bind (wpAny_holding (wpAny_mono (under_run Fr hb hx hs hf ⟨rm, fr.trans sb.fr⟩ I (he _ _ ha) (hR _ _ _ _ he hrt) (by omega)) (fun m s2 hm => ?_) fun _ _ q => q))
    obtain ⟨rfl, H2, I2, e2⟩ := hm
    refine wpAny_bind (wpAny_mkStr ?_ (hz2 m (List.mem_of_getElem? ht)))
    have I3 := I2.tok (s2.toks + 1)
    have pP := (I3.pin (P, lstObj acc c) (List.mem_append_right _ List.mem_cons_self)).1
    refine wpAny_bind ?_
    show wpAny _ _ (updateSeq P _) _ _ _
    have hasz : acc.size ≤ sizeLine := by
      have n1 : acc.toList.length = acc.size := by simp
      have n2 : (strValues done).length = done.length := by simp [strValues]
      have n3 : done.length = (ts.take i).length := by rw [← hdone, List.length_map]
      have n4 : (ts.take i).length ≤ i := by rw [List.length_take]; omega
      rw [hacc] at n1
      omega
    refine wpAny_updateSeq pP rfl (wpAny_pure ⟨PySem.F.quiet_list_repr_loop _, ?_⟩) hasz
    obtain ⟨c', I4⟩ := bump (v := .str m s2.toks) I3 hP hp
    have n1 : ((i : Int) + 1) = ((i + 1 : Nat) : Int) := by omega
    have n2 : piled (ts.take i) + (m.length + 2) = piled (ts.take (i + 1)) := by omega
    rw [n1, n2]
    exact ih (i + 1) _ H2 (acc.push (.str m s2.toks)) c' (done ++ [(m, s2.toks)]) (by omega) hlt (he.trans e2) I4 (by simp [hacc, strValues]) (by simp [List.take_add_one, ht, hdone])
/-- repr of a list of instances -/
def rReprL (C : Addr) (R : Addr → Str → Hp → Prop) : List V → Hp → VK → Prop := fun xs H Q => ∃ (l : Addr) (as : List Addr) (ts : List Str), xs = [.ref l] ∧ H l = some (.lst (as.map V.ref)) ∧ (∀ (i : Nat) (a : Addr), as[i]? = some a → ∃ t dx fs, ts[i]? = some t ∧ H a = some (.ins C dx fs) ∧ R a t H) ∧
  ts.length = as.length ∧ (listText ts).length ≤ sizeLine ∧ ∀ H', Ext H H' → Q (.str (listText ts)) H'
theorem call_reprL {CX : CXT} {C f : Addr} {fd : FuncData} {ps : List Str} {R : Addr → Str → Hp → Prop} {E : XK} (Fr : FnOk X.prog X.w X.K X.mg X.base CX n f fd ps (spRepr R)) (hb : Binds X.K fd ps []) (hx : Passes CX X E)
    (hs : PySem.W.findIn X.K (.ref C) "__repr__" = some (some (.ref f))) (hf : PySem.W.isFn X.K (.ref f) = true) (hr : Room (n + 2) X.A) (hg : X.A.guards = some []) (hR : ∀ a t H H', Ext H H' → R a t H → R a t H') : CallR X (.builtin "repr") (rReprL C R) := by
  intro pins s σ H xs us Q I r h
  obtain ⟨l, as, ts, rfl, hl, hT, hlen, hsz, hQ⟩ := h
  cases r with
  | cons rx rr =>
    cases rr
    cases rx
    obtain ⟨_, its, z, rv, e⟩ := I.hok l _ hl
    have hlI : its.length = as.length := by rw [← rv.length, List.length_map]
    have ty : s.TypeIs (.ref l) "list" := ⟨_, e, rfl⟩
    refine call_repr_slot (T := "list") (idr := "list.__repr__") (by have := hr.un; omega) ty PySem.F.slot_list_repr.toG ?_
    cases its with
    | nil =>
      have ha : as = [] := List.length_eq_zero_iff.mp hlI.symm
      have htn : ts = [] := List.length_eq_zero_iff.mp (by rw [hlen, ha]; rfl)
      subst ha htn
      refine call_list_repr_empty ty e rfl ?_
      refine ⟨_, _, rfl, .str (listText []), H, I.tok _, ⟨_, by rw [listText_nil]⟩, hQ H Ext.rfl'⟩
    | cons y ys =>
      refine GQ.call_here PySem.F.slot_list_repr ty PySem.F.entry_list_repr (PySem.F.args_list_repr_1 _) ?_
      show wpAny _ _ (Builtin.listReprAt 0 ⟨[.ref l], []⟩) _ _ s
      refine wpAny_list_repr_head (g := []) hg (fun v rest kw hm => by cases hm) e rfl ?_
      refine wpAny_bind (m := newList []) (wpAny_newObj_type ?_)
      have hP : (s.heap.push { cls := .type "list", data := .seq #[] }).get? s.heap.objs.size = some { cls := .type "list", data := .seq #[] } := Heap.get?_push_size _ rfl
      have I1 := ClX.pin_new (t' := s.toks) I (fun b u q => Heap.get?_push_of_some _ q) (Nat.le_refl _) hP (fun v q => by cases q)
      refine wpAny_pure ⟨PySem.F.quiet_list_repr_loop _, ?_⟩
      have hr1 : Room (n + 1) X.A.in1 := hr.in1
      exact loop_own (A := X.A.in1) Fr hb hx hs hf ⟨hr1, rfl⟩ hR I.sz (fun p hp => Nat.ne_of_lt (Heap.lt_size (I.pin p hp).1)) hl hT hlen hsz hQ _ 0 _ H #[] _ [] rfl (Nat.zero_le _) Ext.rfl' I1 rfl (by simp)
end
end Rp
/-! repr of an instance whose own __repr__ shows data, as a call and as {x!r}. -/
namespace Gu
open PySem PySem.Spec PyProof.Rows L2
/-- an own def with a guarded contract, called at some around -/
theorem run_ownG {X : Cx} {CX : CXT} {k : Nat} {f : Addr} {fd : FuncData} {ps : List Str} {sp : Sp} {E : XK} {A : Around} {pins : List (Addr × Obj)} {σ : L2.St} {H : Hp} {s : Shared} {Q : VK} {us : List Value} {vs : List V}
    (F : FnG X.prog X.w X.K X.mg X.base CX k f fd ps sp) (hG : A.guards = some []) (hr : Room k A) (e0 : Env0 X.prog X.w X.K X.mg X.base A X.stack s H) (hb : Binds X.K fd ps []) (hx : Passes CX X E) (I : Inv X pins σ H s) (r : Vals vs us) (h : sp vs H Q E) :
    wpAny (model X.prog X.w) A (call (.ref f) us) (EP X pins σ Q) X.xe s := by
  have hl : us.length = ps.length := by rw [← r.length]; exact F.len _ _ _ _ h
  have bd : BindsTo s fd ⟨us, []⟩ (ps.zip us) := by simpa using hb s us I.kIn (by simpa using hl)
  refine wpAny_call (codeAny_mono (F.run A X.stack s H ⟨us, []⟩ us vs Q E hG hr e0 bd r h) fun z s' hq => ?_)
  match z, hq with
  | .error e, hq => exact hx pins σ H s e s' I hq
  | .ok (.ret u), hq => exact I.after hq
  | .ok .next, hq => exact False.elim hq
  | .ok .brk, hq => exact False.elim hq
  | .ok .cont, hq => exact False.elim hq
/-- {x!r}'s first half over an own __repr__ -/
theorem reprObj_own {M : Model} {A : Around} {E : Value → Shared → Prop} {s : Shared} {K : PySem.W.Frag} {x C f : Addr} {ox : Obj} {od : Option Obj} {Q : Value → Shared → Prop} (hu : A.units < cLine) (X : K.In s.heap) (I : PySem.W.InstAt s.heap x ox C od)
    (hs : PySem.W.findIn K (.ref C) "__repr__" = some (some (.ref f))) (hf : PySem.W.isFn K (.ref f) = true) (h : wpAny M A (call (.ref f) [.ref x]) (fun v s' => ∃ t u, v = .str t u ∧ Q v s') E s) : wpAny M A (pyReprObj (.ref x)) Q E s := by
  unfold pyReprObj
  refine wpAny_bind (wpAny_cRoomFor hu (wpAny_bind (wpAny_bind (I.type.here ((PySem.W.looks_findIn X hs).here ?_)))))
  show wpAny _ _ (if (some (Value.ref f)).isNone = true then _ else _) _ _ _
  rw [if_neg (by simp)]
  refine wpAny_bind (PySem.W.ifBound_K X I hs hf (wpAny_mono h (fun v s' hv => ?_) fun _ _ z => z))
  obtain ⟨t, u, rfl, q⟩ := hv
  refine wpAny_bind (wpAny_isInstance (typeIs_str _ _ _) isSubtype_str_str ?_)
  first
    | exact wpAny_pure q
    | (rw [if_pos rfl]; exact wpAny_pure q)
    | (simp only [if_true]; exact wpAny_pure q)
section
variable {X : Cx} {CX : CXT} {n : Nat} {C f : Addr} {fd : FuncData} {ps : List Str} {sp : Sp} {E : XK}
/-- repr(o) -/
def rReprOG (C : Addr) (sp : Sp) (E : XK) : List V → Hp → VK → Prop := fun xs H Q => ∃ (a : Addr) (dx : Addr) (fs : List (Str × V)), xs = [.ref a] ∧ H a = some (.ins C dx fs) ∧ sp [.ref a] H (fun v H' => ∃ t, v = .str t ∧ Q (.str t) H') E
theorem call_reprOG (F : FnG X.prog X.w X.K X.mg X.base CX n f fd ps sp) (hG : X.A.guards = some []) (hb : Binds X.K fd ps []) (hx : Passes CX X E) (hs : PySem.W.findIn X.K (.ref C) "__repr__" = some (some (.ref f))) (hf : PySem.W.isFn X.K (.ref f) = true) (hr : Room (n + 1) X.A) :
    CallR X (.builtin "repr") (rReprOG C sp E) := by
  rintro pins s σ H xs us Q I r ⟨a, dx, fs, rfl, ha, q⟩
  obtain ⟨u, rfl, ru⟩ := vals1 r
  obtain rfl : u = Value.ref a := ru
  obtain ⟨mA, J, _⟩ := ins_get I.hok ha
  obtain ⟨od, J, _⟩ := J.look
  obtain ⟨m, hF⟩ := I.fr
  refine PySem.W.repr_K (C := C) (f := f) hr.in1.units0 hF I.ok.mod.kin J hs hf (wpAny_mono (run_ownG F (A := X.A.in1) hG hr.in1 I.env0.in1 hb hx I (vs := [.ref a]) (.cons (show RelV (.ref a) (.ref a) from rfl) .nil) q) (fun v s' hq => ?_) fun _ _ z => z)
  obtain ⟨w, H', I', rw', t, rfl, q'⟩ := hq
  obtain ⟨u, rfl⟩ := rw'
  exact ⟨.str t, H', I', ⟨u, rfl⟩, q'⟩
/-- {o!r} -/
def tFmtROG (C : Addr) (sp : Sp) (E : XK) (te : TE) : TE := fun σ H Q => te σ H fun x H1 => ∃ (a : Addr) (dx : Addr) (fs : List (Str × V)), x = .ref a ∧ H1 a = some (.ins C dx fs) ∧ sp [.ref a] H1 (fun v H' => ∃ t, v = .str t ∧ t.length ≤ sizeLine ∧ Q (.str t) H') E
def tFmtRU (K : PySem.W.Frag) (C : Addr) (sp : Sp) (E : XK) (te : TE) : TE := fun σ H Q => te σ H fun x H1 => (∃ d, Dp K H1 x d ∧ Shows d ∧ Q (.str d.shown) H1) ∨ ∃ (a : Addr) (dx : Addr) (fs : List (Str × V)), x = .ref a ∧ H1 a = some (.ins C dx fs) ∧ sp [.ref a] H1 (fun v H' => ∃ t, v = .str t ∧ t.length ≤ sizeLine ∧ Q (.str t) H') E
/-- {x!r}, x data or such an instance -/
theorem pe_fmtRU {e : Expr} {te : TE} {pos : Pos} (F : FnG X.prog X.w X.K X.mg X.base CX n f fd ps sp) (hG : X.A.guards = some []) (hb : Binds X.K fd ps []) (hx : Passes CX X E) (hs : PySem.W.findIn X.K (.ref C) "__repr__" = some (some (.ref f))) (hf : PySem.W.isFn X.K (.ref f) = true) (hr : Room (n + 1) X.A) (hr2 : X.A.units + 65 < cLine) (he : PE X e te) :
    PE X (.FormattedValue e 114 none pos) (tFmtRU X.K C sp E te) := by
  refine ⟨fun pins s σ H Q I h => ?_⟩
  refine wpAny_FormattedValue_repr (thn (he.run pins s σ H _ I h) fun v s1 hv => ?_)
  obtain ⟨x, H1, I1, r1, ⟨d, hd, sh, q⟩ | ⟨a, dx, fs, rfl, ha, q⟩⟩ := hv
  · exact fmt_data hG hr2 I1 r1 hd sh q
  · obtain rfl : v = Value.ref a := r1
    obtain ⟨mA, J, _⟩ := ins_get I1.hok ha
    obtain ⟨od, J, _⟩ := J.look
    refine reprObj_own (C := C) (f := f) hr.units0 I1.kIn J hs hf (wpAny_mono (run_ownG F hG (hr.mono (Nat.le_succ _)) I1.env0 hb hx I1 (vs := [.ref a]) (.cons (show RelV (.ref a) (.ref a) from rfl) .nil) q) (fun v s' hq => ?_) fun _ _ z => z)
    obtain ⟨w, H', I', rw', t, rfl, hz, q'⟩ := hq
    obtain ⟨u, rfl⟩ := rw'
    exact ⟨t, u, rfl, wpAny_formatField_str ⟨.str t, H', I', ⟨u, rfl⟩, q'⟩ ⟨.str t, H', I'.tok _, ⟨_, rfl⟩, q'⟩ hz⟩
theorem pe_fmtRUK {K : PySem.W.Frag} {e : Expr} {te : TE} {pos : Pos} (F : FnG X.prog X.w X.K X.mg X.base CX n f fd ps sp) (hG : X.A.guards = some []) (hb : Binds X.K fd ps []) (hx : Passes CX X E) (hs : PySem.W.findIn X.K (.ref C) "__repr__" = some (some (.ref f))) (hf : PySem.W.isFn X.K (.ref f) = true) (hr : Room (n + 1) X.A) (hr2 : X.A.units + 65 < cLine) (he : PE X e te) (hK : X.K = K := by rfl) :
    PE X (.FormattedValue e 114 none pos) (tFmtRU K C sp E te) := by
  subst hK
  exact pe_fmtRU F hG hb hx hs hf hr hr2 he
theorem opr_or {f : Value → Value → Sem Value} {r r' : R2} (h : OpR X f r) (h' : OpR X f r') : OpR X f (fun x y H Q => r x y H Q ∨ r' x y H Q) := by
  rintro pins s σ H x y v u Q I rx ry (q | q)
  · exact h pins s σ H x y v u Q I rx ry q
  · exact h' pins s σ H x y v u Q I rx ry q
end
end Gu
/-! How books and settings show themselves: _told. -/
namespace Sc
open PySem L2
def tJo (ts : List TE) : TE := fun σ H Q => tJs ts Str.empty σ H fun out H1 => Q (.str out) H1
theorem pe_jo {X : Cx} {v1 v2 : Expr} {rest : List Expr} {ts : List TE} {pos : Pos} (h : PJ X (v1 :: v2 :: rest) ts) : PE X (.JoinedStr (v1 :: v2 :: rest) pos) (tJo ts) := pe_joined h
/-- a field that is shown: its name, its value's text, whether it is not the default -/
abbrev Itm : Type := Str × Str × Bool
def pcs (n t : Str) : Str := ((Str.empty ++ n) ++ "=") ++ t
def pieces (rs : List Itm) : List Str := (rs.filter fun r => r.2.2).map fun r => pcs r.1 r.2.1
def toldT (rs : List Itm) : Str := Txt.join ", " (pieces rs)
theorem pieces_snoc (rs : List Itm) (r : Itm) : pieces (rs ++ [r]) = pieces rs ++ (if r.2.2 = true then [pcs r.1 r.2.1] else []) := by
  unfold pieces
  rw [List.filter_append, List.map_append]
  cases h : r.2.2 <;> simp [List.filter_cons, h]
theorem pcs_len {B : Nat} {n t : Str} (h1 : n.length ≤ 100) (h2 : t.length ≤ B) : (pcs n t).length ≤ B + 101 := by
  unfold pcs
  rw [strLen_append, strLen_append, strLen_append, show (Str.empty : Str).length = 0 from rfl, show (("=" : Str)).length = 1 by decide +kernel]
  omega
/-- the values at a row are such -/
def ItD (K : PySem.W.Frag) (H : Hp) (r : Itm) (x y : V) : Prop := ∃ d e, Dp K H x d ∧ Dp K H y e ∧ SeqAt.shaped d = true ∧ SeqAt.shaped e = true ∧ Gu.Shows d ∧ r.2.1 = d.shown ∧ r.2.2 = !PyData.eqv d e
theorem ItD.same {K : PySem.W.Frag} {H H' : Hp} {r : Itm} {x y : V} (h : ItD K H r x y) (k : Same H H') : ItD K H' r x y := by
  obtain ⟨d, e, h1, h2, h3⟩ := h
  exact ⟨d, e, Dd2.dp_same h1 k, Dd2.dp_same h2 k, h3⟩
def RowAt (I : Hp → Itm → V → V → Prop) (H : Hp) (t : Addr) (r : Itm) : Prop := ∃ x y, H t = some (.tup [.str r.1, x, y]) ∧ I H r x y
def spTold (I : Hp → Itm → V → V → Prop) : Sp := fun vs H Q _ => ∃ (l : Addr) (ps : List Addr) (rs : List Itm), vs = [.ref l] ∧ H l = some (.lst (ps.map V.ref)) ∧ Paired (RowAt I H) ps rs ∧ rs.length ≤ 20 ∧ (∀ r ∈ rs, r.1.length ≤ 100 ∧ r.2.1.length ≤ 60000) ∧ ∀ H', Same H H' → Q (.str (toldT rs)) H'
theorem pieces_sz {B : Nat} : ∀ {rs : List Itm}, (∀ r ∈ rs, r.1.length ≤ 100 ∧ r.2.1.length ≤ B) → ((pieces rs).map (·.length)).sum ≤ (B + 101) * rs.length ∧ (pieces rs).length ≤ rs.length
  | [], _ => ⟨by simp [pieces], by simp [pieces]⟩
  | r :: rs, h => by
    obtain ⟨h1, h2⟩ := pieces_sz fun x hx => h x (List.mem_cons_of_mem _ hx)
    obtain ⟨a, b⟩ := h r (List.mem_cons_self ..)
    have e : pieces (r :: rs) = (if r.2.2 = true then [pcs r.1 r.2.1] else []) ++ pieces rs := by
      unfold pieces
      cases h : r.2.2 <;> simp [List.filter_cons, h]
    have pl := pcs_len a b
    rw [e, List.map_append, List.sum_append, List.length_append, List.length_cons, Nat.mul_succ]
    cases h : r.2.2 <;> simp <;> omega
abbrev NTo : List Str := ["fields", "field", "value", "default"]
theorem scTold : FnScope NTo ["fields"] (defScope s__told) := ⟨rfl, rfl, rfl, by decide +kernel, rfl, by decide +kernel, by decide +kernel⟩
theorem ok_told0 {P : Program} {w : World} {K : PySem.W.Frag} {mg : Str → Option Value} {base : Heap} {f : Addr} {fd : FuncData} (F : Fun K "_told" "_told" s__told f fd) : Gu.FnG P w K mg base CX0 2 f fd ["fields"] (spTold (ItD K)) := by
  refine Gu.ok_g F scTold (fun vs H Q E h => ?_) (fun cdv A outer s H vs Q E hg hr h => ?_)
  · obtain ⟨l, ps, rs, rfl, _⟩ := h
    rfl
  · obtain ⟨l, ps, rs, rfl, hl, hp, hn, hz, k⟩ := h
    have u65 : (A.deeper (PyProof.Rows.envOfC "_told" (defScope s__told) s.heap.objs.size f cdv)).units + 65 < cLine := by have := hr.un; omega
    refine ⟨_, pss_one (ps_ret (pe_join pe_str (pe_lc (own := [("field", 1), ("value", 2), ("default", 3)]) (g := gTup K 3 (gCons (gName 1) (gCons (gName 2) (gCons (gName 3) gNil)))) rfl scTold.nd (pi_list (pv 0)) (blkOk_by (N := NTo) (sc := defScope s__told) (by decide +kernel))
      (fun _ _ _ _ _ => pg_tup rfl (pgs_cons (pg_name (i := 1) scTold.nd rfl (Or.inl rfl)) (pgs_cons (pg_name (i := 2) scTold.nd rfl (Or.inl rfl)) (pgs_cons (pg_name (i := 3) scTold.nd rfl (Or.inl rfl)) pgs_nil)))) (fun _ _ _ _ _ => pts_one (pt_cmpR (r := rNeD K) (op_neD hr.units) (pv 2) (pv 3) (nomark _)))
      (fun _ _ _ _ _ => pe_jo (.cons (pe_fmt (pv 1)) (.cons pe_str (.cons (Gu.pe_fmtRAK (K := K) hg u65 (pv 2)) .nil))))))), ?_⟩
    have small : ∀ {n : Nat}, n ≤ 70000 → n ≤ sizeLine := fun h => Nat.le_trans h (by decide)
    have hlen := paired_len hp
    refine ⟨⟨_, rfl⟩, _, rfl, l, rfl, ⟨_, SqL.of hl⟩, fun D nD => lc_list (K := K) (a := l) (xs := ps.map V.ref) (fun i H' => Same H H' ∧ H' D = some (.lst ((pieces (rs.take i)).map V.str))) ⟨put_same nD, upd_same⟩ (fun i H' _ p => SqL.of (p.1 _ _ hl)) (fun i x H' hx p => ?_) fun H' p => ?_⟩
    · rw [List.getElem?_map] at hx
      obtain ⟨t, ht, rfl⟩ := Option.map_eq_some_iff.mp hx
      have il : i < rs.length := by
        have := (List.getElem?_eq_some_iff.mp ht).1
        omega
      have er : rs[i]? = some rs[i] := List.getElem?_eq_getElem il
      obtain ⟨x, y, et, ir⟩ := paired_ith hp ht er
      obtain ⟨z1, z2⟩ := hz _ (List.getElem_mem il)
      have grow : pieces (rs.take (i + 1)) = pieces (rs.take i) ++ (if rs[i].2.2 = true then [pcs rs[i].1 rs[i].2.1] else []) := by
        rw [List.take_add_one, er]
        exact pieces_snoc _ _
      have few : (pieces (rs.take i)).length < sizeLine := by
        have q : (pieces (rs.take i)).length ≤ (rs.take i).length := by
          unfold pieces
          rw [List.length_map]
          exact List.length_filter_le _ _
        rw [List.length_take] at q
        exact Nat.lt_of_le_of_lt (show _ ≤ 20 by omega) (by decide)
      have pl := pcs_len z1 z2
      refine ⟨t, _, rfl, .inl (.inl (p.1 _ _ et)), rfl, _, _, rfl, _, _, rfl, _, _, rfl, rfl, rfl, ?_⟩
      have ir' := ir.same p.1
      have a1 : (Str.empty ++ rs[i].1).length ≤ 70000 := by rw [strLen_append, show (Str.empty : Str).length = 0 from rfl]; omega
      have a2 : ((Str.empty ++ rs[i].1) ++ "=").length ≤ 70000 := by rw [strLen_append, strLen_append, show (Str.empty : Str).length = 0 from rfl, show (("=" : Str)).length = 1 by decide +kernel]; omega
      have a3 : (pcs rs[i].1 rs[i].2.1).length ≤ 70000 := by omega
      have step : ∀ H4, Same H' H4 → ∃ acc, H4 D = some (.lst acc) ∧ acc.length < sizeLine ∧ (rs[i].2.2 = true → (Same H (upd H4 D (.lst (acc ++ [.str (pcs rs[i].1 rs[i].2.1)]))) ∧ (upd H4 D (.lst (acc ++ [.str (pcs rs[i].1 rs[i].2.1)]))) D = some (.lst ((pieces (rs.take (i + 1))).map V.str)))) := fun H4 s4 => by
        refine ⟨_, s4 _ _ p.2, by rw [List.length_map]; exact few, fun hc => ⟨fun c o e => ?_, ?_⟩⟩
        · rw [upd_ne (ne_of_none e nD)]
          exact s4 _ _ (p.1 _ _ e)
        · rw [upd_same, grow, if_pos hc, List.map_append]
          rfl
      obtain ⟨d, e, hd, he, sd, se, sh, ed, ee⟩ := ir'
      refine ⟨_, rfl, _, rfl, d, e, hd, he, sd, se, _, rfl, ?_⟩
      rw [← ee]
      cases hc : rs[i].2.2 with
      | true =>
        obtain ⟨acc, w1, w2, w3⟩ := step H' (Same.refl _)
        obtain ⟨w4, w5⟩ := w3 hc
        rw [ed] at w4 w5 a3
        exact iteT ⟨_, rfl, .inl ⟨_, rfl, small (by omega), _, rfl, small a1, _, rfl, small a2, _, rfl, d, hd, sh, _, rfl, small a3, acc, w1, w2, w4, w5⟩⟩
      | false =>
        refine iteF ⟨p.1, ?_⟩
        rw [p.2, grow, hc]
        simp
    · obtain ⟨s1, e1⟩ := p
      rw [List.length_map, hlen, List.take_length] at e1
      obtain ⟨q1, q2⟩ := pieces_sz hz
      refine ⟨", ", D, pieces rs, rfl, rfl, .inl (SqL.of e1), ?_, k _ s1⟩
      rw [show ((", " : Str)).length = 2 by decide +kernel]
      have q3 : (60000 + 101) * rs.length ≤ (60000 + 101) * 20 := Nat.mul_le_mul_left _ hn
      omega
end Sc
/-! A book shown. -/
namespace Sc
open PySem L2
def brows (v : B5) : List Itm := [("cleaned", (dW v.1).shown, !PyData.eqv (dW v.1) (dW 7)), ("dropped", (dW v.2.1).shown, !PyData.eqv (dW v.2.1) (dW 6)), ("bind_copied", (dW v.2.2.1).shown, !PyData.eqv (dW v.2.2.1) (dW 7)), ("give_copied", (dW v.2.2.2.1).shown, !PyData.eqv (dW v.2.2.2.1) (dW 7)), ("take_copied", (dW v.2.2.2.2).shown, !PyData.eqv (dW v.2.2.2.2) (dW 6))]
def bookT (v : B5) : Str := ((Str.empty ++ "Book(") ++ toldT (brows v)) ++ ")"
theorem w_shown (m : Nat) : (dW m).shown.length ≤ 100 := by
  unfold dW ways
  split <;> split <;> split <;> decide +kernel
theorem w_shows (m : Nat) : Gu.Shows (dW m) := by
  unfold dW ways
  split <;> split <;> split <;> exact ⟨by decide +kernel, by decide +kernel, by decide +kernel⟩
theorem brows_ok (v : B5) : ∀ r ∈ brows v, r.1.length ≤ 100 ∧ r.2.1.length ≤ 100 := by
  intro r hr
  simp only [brows, List.mem_cons, List.not_mem_nil, or_false] at hr
  rcases hr with rfl | rfl | rfl | rfl | rfl <;> exact ⟨by dsimp only; decide +kernel, w_shown _⟩
theorem toldT_len {B : Nat} {rs : List Itm} (h : ∀ r ∈ rs, r.1.length ≤ 100 ∧ r.2.1.length ≤ B) (hl : rs.length ≤ 20) : (toldT rs).length ≤ (B + 101) * 20 + 40 := by
  obtain ⟨q1, q2⟩ := pieces_sz h
  have z := StrLaws.join_length_le ", " (pieces rs)
  rw [show ((", " : Str)).length = 2 by decide +kernel] at z
  have e : toldT rs = Str.join ", " (pieces rs) := TL.join_eq _ _
  rw [e]
  have q3 : (B + 101) * rs.length ≤ (B + 101) * 20 := Nat.mul_le_mul_left _ hl
  omega
theorem bookT_len (v : B5) : (bookT v).length ≤ 5000 := by
  have := toldT_len (brows_ok v) (show 5 ≤ 20 by decide)
  unfold bookT
  rw [strLen_append, strLen_append, show ((Str.empty ++ "Book(" : Str)).length = 5 by decide +kernel, show ((")" : Str)).length = 1 by decide +kernel]
  omega
def spBRepr (K : PySem.W.Frag) (CB : Addr) : Sp := fun vs H Q _ => ∃ (a : Addr) (v : B5), vs = [.ref a] ∧ BookAt K CB H a v ∧ ∀ H', Same H H' → Q (.str (bookT v)) H'
theorem scBRepr : FnScope ["self", "fields"] ["self"] (defScope s_Book___repr__) := ⟨rfl, rfl, rfl, by decide +kernel, rfl, by decide +kernel, by decide +kernel⟩
theorem ok_brepr {P : Program} {w : World} {K : PySem.W.Frag} {mg : Str → Option Value} {base : Heap} {CB dT wT cT pT f fT : Addr} {fd fdT : FuncData} (F : Fun K "__repr__" "Book.__repr__" s_Book___repr__ f fd) (T : TBk K mg CB) (D : DirAt K mg dT wT cT pT) (GT : Gu.FnG P w K mg base CX0 2 fT fdT ["fields"] (spTold (ItD K))) (DT : Def K mg "_told" fT fdT ["fields"]) : Gu.FnG P w K mg base CX0 3 f fd ["self"] (spBRepr K CB) := by
  refine Gu.ok_g F scBRepr (fun vs H Q E h => ?_) (fun cdv A outer s H vs Q E hg hr h => ?_)
  · obtain ⟨a, v, rfl, _⟩ := h
    rfl
  · obtain ⟨a, v, rfl, ⟨dx, t1, t2, t3, t4, t5, ea, hv, h1, h2, h3, h4, h5⟩, k⟩ := h
    refine ⟨_, pss_cons (ps_set (i := 1) scBRepr.nd rfl (Or.inl rfl) (pe_lst (pa_cons (pe_tup (pa_cons pe_str (pa_cons (pe_fld (pv 0) rfl) (pa_cons (pe_glob (v := .ref dT) rfl D.dir rfl) pa_nil)))) (pa_cons (pe_tup (pa_cons pe_str (pa_cons (pe_fld (pv 0) rfl) (pa_cons (pe_glob (v := .ref wT) rfl D.wri rfl) pa_nil)))) (pa_cons (pe_tup (pa_cons pe_str (pa_cons (pe_fld (pv 0) rfl) (pa_cons (pe_glob (v := .ref dT) rfl D.dir rfl) pa_nil)))) (pa_cons (pe_tup (pa_cons pe_str (pa_cons (pe_fld (pv 0) rfl) (pa_cons (pe_glob (v := .ref dT) rfl D.dir rfl) pa_nil)))) (pa_cons (pe_tup (pa_cons pe_str (pa_cons (pe_fld (pv 0) rfl) (pa_cons (pe_glob (v := .ref wT) rfl D.wri rfl) pa_nil)))) pa_nil)))))))
      (pss_one (ps_ret (pe_joined (.cons pe_str (.cons (pe_fmt (Gu.pe_callG GT hg hr (by rfl) DT.at_ DT.kp DT.bd pass0 (pa_cons (pv 1) pa_nil))) (.cons pe_str .nil)))))), ?_⟩
    refine ⟨_, rfl, a, CB, dx, _, _, rfl, ea, T.cl, T.n1, bk1 .., (by show 3 ≤ sizeLine; decide), fun u1 n1 => ?_⟩
    have s1 := put_same (o := .tup [.str "cleaned", .ref t1, .ref dT]) n1
    have k1 := s1
    refine ⟨_, rfl, a, CB, dx, _, _, rfl, (k1 _ _ ea), T.cl, T.n2, bk2 .., (by show 3 ≤ sizeLine; decide), fun u2 n2 => ?_⟩
    have s2 := put_same (o := .tup [.str "dropped", .ref t2, .ref wT]) n2
    have k2 := k1.trans s2
    refine ⟨_, rfl, a, CB, dx, _, _, rfl, (k2 _ _ ea), T.cl, T.n3, bk3 .., (by show 3 ≤ sizeLine; decide), fun u3 n3 => ?_⟩
    have s3 := put_same (o := .tup [.str "bind_copied", .ref t3, .ref dT]) n3
    have k3 := k2.trans s3
    refine ⟨_, rfl, a, CB, dx, _, _, rfl, (k3 _ _ ea), T.cl, T.n4, bk4 .., (by show 3 ≤ sizeLine; decide), fun u4 n4 => ?_⟩
    have s4 := put_same (o := .tup [.str "give_copied", .ref t4, .ref dT]) n4
    have k4 := k3.trans s4
    refine ⟨_, rfl, a, CB, dx, _, _, rfl, (k4 _ _ ea), T.cl, T.n5, bk5 .., (by show 3 ≤ sizeLine; decide), fun u5 n5 => ?_⟩
    have s5 := put_same (o := .tup [.str "take_copied", .ref t5, .ref wT]) n5
    have k5 := k4.trans s5
    refine ⟨(by show 5 ≤ sizeLine; decide), fun l nl => ?_⟩
    have sl := put_same (o := .lst [.ref u1, .ref u2, .ref u3, .ref u4, .ref u5]) nl
    have kl := k5.trans sl
    have small : ∀ {n : Nat}, n ≤ 60000 → n ≤ sizeLine := fun h => Nat.le_trans h (by decide)
    have b1 : ((Str.empty ++ "Book(" : Str)).length = 5 := by decide +kernel
    have b2 := toldT_len (brows_ok v) (show 5 ≤ 20 by decide)
    have b3 := bookT_len v
    refine ⟨_, rfl, small (by omega), _, rfl, l, [u1, u2, u3, u4, u5], brows v, rfl, upd_same, (.cons ⟨.ref t1, .ref dT, (sl _ _ (s5 _ _ (s4 _ _ (s3 _ _ (s2 _ _ upd_same))))), dW v.1, dW 7, dp_w (sqT_same h1 kl), dp_w (D.dirs _), shaped_w _, shaped_w _, w_shows _, rfl, rfl⟩ (.cons ⟨.ref t2, .ref wT, (sl _ _ (s5 _ _ (s4 _ _ (s3 _ _ upd_same)))), dW v.2.1, dW 6, dp_w (sqT_same h2 kl), dp_w (D.wris _), shaped_w _, shaped_w _, w_shows _, rfl, rfl⟩ (.cons ⟨.ref t3, .ref dT, (sl _ _ (s5 _ _ (s4 _ _ upd_same))), dW v.2.2.1, dW 7, dp_w (sqT_same h3 kl), dp_w (D.dirs _), shaped_w _, shaped_w _, w_shows _, rfl, rfl⟩ (.cons ⟨.ref t4, .ref dT, (sl _ _ (s5 _ _ upd_same)), dW v.2.2.2.1, dW 7, dp_w (sqT_same h4 kl), dp_w (D.dirs _), shaped_w _, shaped_w _, w_shows _, rfl, rfl⟩ (.cons ⟨.ref t5, .ref wT, (sl _ _ upd_same), dW v.2.2.2.2, dW 6, dp_w (sqT_same h5 kl), dp_w (D.wris _), shaped_w _, shaped_w _, w_shows _, rfl, rfl⟩ .nil))))), (show 5 ≤ 20 by decide), (fun r hr => ⟨(brows_ok v r hr).1, Nat.le_trans (brows_ok v r hr).2 (by decide)⟩), fun H' s' => .inl ⟨_, rfl, small (by omega), _, rfl, small (by rw [strLen_append]; omega), _, rfl, small (by
      show (bookT v).length ≤ 60000
      omega), k _ (kl.trans s')⟩⟩
end Sc
/-! _told over data and a book. -/
namespace Sc
open PySem L2
def ItM (K : PySem.W.Frag) (CB : Addr) (H : Hp) (r : Itm) (x y : V) : Prop := ItD K H r x y ∨ ∃ b v, x = .ref b ∧ BookAt K CB H b v ∧ y = .non ∧ r.2.1 = bookT v ∧ r.2.2 = true
theorem ItM.same {K : PySem.W.Frag} {CB : Addr} {H H' : Hp} {r : Itm} {x y : V} (h : ItM K CB H r x y) (k : Same H H') : ItM K CB H' r x y := by
  rcases h with h | ⟨b, v, e, hB, e2⟩
  · exact .inl (h.same k)
  · exact .inr ⟨b, v, e, hB.same k, e2⟩
def rNeU (K : PySem.W.Frag) (CB : Addr) : R2 := fun x y H Q => rNeD K x y H Q ∨ Ow.rNeO K CB (spBEq K CB) E0 x y H Q
theorem ok_told1 {P : Program} {w : World} {K : PySem.W.Frag} {mg : Str → Option Value} {base : Heap} {f : Addr} {fd : FuncData} (F : Fun K "_told" "_told" s__told f fd) {CB fR fQ : Addr} {fdR fdQ : FuncData} (GB : Gu.FnG P w K mg base CX0 3 fR fdR ["self"] (spBRepr K CB)) (bR : Binds K fdR ["self"] []) (sR : PySem.W.findIn K (.ref CB) "__repr__" = some (some (.ref fR))) (iR : PySem.W.isFn K (.ref fR) = true)
    (GQ : FnOk P w K mg base CX0 1 fQ fdQ ["self", "other"] (spBEq K CB)) (bQ : Binds K fdQ ["self", "other"] []) (sQ : PySem.W.findIn K (.ref CB) "__eq__" = some (some (.ref fQ))) (iQ : PySem.W.isFn K (.ref fQ) = true) (nQ : PySem.W.findIn K (.ref CB) "__ne__" = some (some (.builtin "object.__ne__"))) (mQ : PySem.W.mroIn K CB (.type "object") = some true)
    (kN : PySem.W.kitOne K (.type "NoneType") (.ref CB) = some false) (fN : PySem.W.notFirst K CB (.type "NoneType") = true) : Gu.FnG P w K mg base CX0 5 f fd ["fields"] (spTold (ItM K CB)) := by
  refine Gu.ok_g F scTold (fun vs H Q E h => ?_) (fun cdv A outer s H vs Q E hg hr h => ?_)
  · obtain ⟨l, ps, rs, rfl, _⟩ := h
    rfl
  · obtain ⟨l, ps, rs, rfl, hl, hp, hn, hz, k⟩ := h
    have u65 : (A.deeper (PyProof.Rows.envOfC "_told" (defScope s__told) s.heap.objs.size f cdv)).units + 65 < cLine := by have := hr.un; omega
    refine ⟨_, pss_one (ps_ret (pe_join pe_str (pe_lc (own := [("field", 1), ("value", 2), ("default", 3)]) (g := gTup K 3 (gCons (gName 1) (gCons (gName 2) (gCons (gName 3) gNil)))) rfl scTold.nd (pi_list (pv 0)) (blkOk_by (N := NTo) (sc := defScope s__told) (by decide +kernel))
      (fun _ _ _ _ _ => pg_tup rfl (pgs_cons (pg_name (i := 1) scTold.nd rfl (Or.inl rfl)) (pgs_cons (pg_name (i := 2) scTold.nd rfl (Or.inl rfl)) (pgs_cons (pg_name (i := 3) scTold.nd rfl (Or.inl rfl)) pgs_nil)))) (fun _ _ _ _ _ => pts_one (pt_cmpR (r := rNeU K CB) (Gu.opr_or (op_neD hr.units) (Ow.op_neO GQ (hr.mono (by decide)) nQ mQ sQ iQ bQ pass0)) (pv 2) (pv 3) (nomark _)))
      (fun _ _ _ _ _ => pe_jo (.cons (pe_fmt (pv 1)) (.cons pe_str (.cons (Gu.pe_fmtRUK (K := K) (C := CB) (sp := spBRepr K CB) (E := E0) GB hg bR pass0 sR iR hr u65 (pv 2)) .nil))))))), ?_⟩
    have small : ∀ {n : Nat}, n ≤ 70000 → n ≤ sizeLine := fun h => Nat.le_trans h (by decide)
    have hlen := paired_len hp
    refine ⟨⟨_, rfl⟩, _, rfl, l, rfl, ⟨_, SqL.of hl⟩, fun D nD => lc_list (K := K) (a := l) (xs := ps.map V.ref) (fun i H' => Same H H' ∧ H' D = some (.lst ((pieces (rs.take i)).map V.str))) ⟨put_same nD, upd_same⟩ (fun i H' _ p => SqL.of (p.1 _ _ hl)) (fun i x H' hx p => ?_) fun H' p => ?_⟩
    · rw [List.getElem?_map] at hx
      obtain ⟨t, ht, rfl⟩ := Option.map_eq_some_iff.mp hx
      have il : i < rs.length := by
        have := (List.getElem?_eq_some_iff.mp ht).1
        omega
      have er : rs[i]? = some rs[i] := List.getElem?_eq_getElem il
      obtain ⟨x, y, et, ir⟩ := paired_ith hp ht er
      obtain ⟨z1, z2⟩ := hz _ (List.getElem_mem il)
      have grow : pieces (rs.take (i + 1)) = pieces (rs.take i) ++ (if rs[i].2.2 = true then [pcs rs[i].1 rs[i].2.1] else []) := by
        rw [List.take_add_one, er]
        exact pieces_snoc _ _
      have few : (pieces (rs.take i)).length < sizeLine := by
        have q : (pieces (rs.take i)).length ≤ (rs.take i).length := by
          unfold pieces
          rw [List.length_map]
          exact List.length_filter_le _ _
        rw [List.length_take] at q
        exact Nat.lt_of_le_of_lt (show _ ≤ 20 by omega) (by decide)
      have pl := pcs_len z1 z2
      refine ⟨t, _, rfl, .inl (.inl (p.1 _ _ et)), rfl, _, _, rfl, _, _, rfl, _, _, rfl, rfl, rfl, ?_⟩
      have ir' := ir.same p.1
      have a1 : (Str.empty ++ rs[i].1).length ≤ 70000 := by rw [strLen_append, show (Str.empty : Str).length = 0 from rfl]; omega
      have a2 : ((Str.empty ++ rs[i].1) ++ "=").length ≤ 70000 := by rw [strLen_append, strLen_append, show (Str.empty : Str).length = 0 from rfl, show (("=" : Str)).length = 1 by decide +kernel]; omega
      have a3 : (pcs rs[i].1 rs[i].2.1).length ≤ 70000 := by omega
      have step : ∀ H4, Same H' H4 → ∃ acc, H4 D = some (.lst acc) ∧ acc.length < sizeLine ∧ (rs[i].2.2 = true → (Same H (upd H4 D (.lst (acc ++ [.str (pcs rs[i].1 rs[i].2.1)]))) ∧ (upd H4 D (.lst (acc ++ [.str (pcs rs[i].1 rs[i].2.1)]))) D = some (.lst ((pieces (rs.take (i + 1))).map V.str)))) := fun H4 s4 => by
        refine ⟨_, s4 _ _ p.2, by rw [List.length_map]; exact few, fun hc => ⟨fun c o e => ?_, ?_⟩⟩
        · rw [upd_ne (ne_of_none e nD)]
          exact s4 _ _ (p.1 _ _ e)
        · rw [upd_same, grow, if_pos hc, List.map_append]
          rfl
      rcases ir' with ⟨d, e, hd, he, sd, se, sh, ed, ee⟩ | ⟨b, v, rfl, hB, rfl, et2, ee⟩
      · refine ⟨_, rfl, _, rfl, .inl ⟨d, e, hd, he, sd, se, _, rfl, ?_⟩⟩
        rw [← ee]
        cases hc : rs[i].2.2 with
        | true =>
          obtain ⟨acc, w1, w2, w3⟩ := step H' (Same.refl _)
          obtain ⟨w4, w5⟩ := w3 hc
          rw [ed] at w4 w5 a3
          exact iteT ⟨_, rfl, .inl ⟨_, rfl, small (by omega), _, rfl, small a1, _, rfl, small a2, _, rfl, .inl ⟨d, hd, sh, _, rfl, small a3, acc, w1, w2, w4, w5⟩⟩⟩
        | false =>
          refine iteF ⟨p.1, ?_⟩
          rw [p.2, grow, hc]
          simp
      · obtain ⟨dxb, _, _, _, _, _, eb, _⟩ := id hB
        refine ⟨_, rfl, _, rfl, .inr ⟨b, dxb, _, .type "NoneType", rfl, eb, .base .non, fN, b, v, _, rfl, hB, .inr ⟨_, .base .non, kN, _, rfl, _, rfl, iteT ?_⟩⟩⟩
        have bl := bookT_len v
        refine ⟨_, rfl, .inl ⟨_, rfl, small (by omega), _, rfl, small a1, _, rfl, small a2, _, rfl, .inr ⟨b, dxb, _, rfl, eb, b, v, rfl, hB, fun H4 s4 => ?_⟩⟩⟩
        obtain ⟨acc, w1, w2, w3⟩ := step H4 s4
        obtain ⟨w4, w5⟩ := w3 ee
        rw [et2] at w4 w5 a3
        exact ⟨_, rfl, small (by omega), _, rfl, small a3, acc, w1, w2, w4, w5⟩
    · obtain ⟨s1, e1⟩ := p
      rw [List.length_map, hlen, List.take_length] at e1
      obtain ⟨q1, q2⟩ := pieces_sz hz
      refine ⟨", ", D, pieces rs, rfl, rfl, .inl (SqL.of e1), ?_, k _ s1⟩
      rw [show ((", " : Str)).length = 2 by decide +kernel]
      have q3 : (60000 + 101) * rs.length ≤ (60000 + 101) * 20 := Nat.mul_le_mul_left _ hn
      omega
end Sc
/-! A setting shown. -/
namespace Sc
open PySem L2
theorem io_shaped {d : PyData} (h : ItemOk d) : SeqAt.shaped d = true := by
  have := h.dep
  unfold SeqAt.shaped
  rw [h.lay, Bool.true_and]
  exact decide_eq_true (by omega)
theorem io_shows {d : PyData} (h : ItemOk d) : Gu.Shows d := by
  have h2 := h.dep
  have h3 := h.wt
  refine ⟨?_, h.sh, h.sho⟩
  unfold PyData.layable0
  rw [h.lay, decide_eq_true (show PyData.depth d ≤ 64 by omega), decide_eq_true (show PyData.weight d ≤ 2 ^ 20 by omega)]
  rfl
def srows (s : S8) : List Itm := [("copies", (PyData.str s.copies).shown, !PyData.eqv (.str s.copies) (.str "none")), ("cached", (PyData.bool s.cached).shown, !PyData.eqv (.bool s.cached) (.bool false)), ("batch", (PyData.int s.batch).shown, !PyData.eqv (.int s.batch) (.int 0)), ("early", (PyData.bool s.early).shown, !PyData.eqv (.bool s.early) (.bool false)), ("drain", (PyData.bool s.drain).shown, !PyData.eqv (.bool s.drain) (.bool true)), ("policy", (PyData.str s.policy).shown, !PyData.eqv (.str s.policy) (.str "first")), ("groups", (PyData.int s.groups).shown, !PyData.eqv (.int s.groups) (.int 16)), ("tables", (PyData.int s.tables).shown, !PyData.eqv (.int s.tables) (.int 16))]
def srowsB (s : S8) (v : B5) : List Itm := srows s ++ ((if bookT v = "Book()" then [] else [("book", bookT v, true)]) : List Itm)
def setT (s : S8) (v : B5) : Str := ((Str.empty ++ "Setting(") ++ toldT (srowsB s v)) ++ ")"
theorem sh_int : ∀ n : Nat, n < 64 → (PyData.int n).shown.length ≤ 100 := by decide +kernel
theorem shl_int {i : Int} (h0 : 0 ≤ i) (h1 : i < 64) : (PyData.int i).shown.length ≤ 100 := by
  obtain ⟨n, rfl⟩ := Int.eq_ofNat_of_zero_le h0
  exact sh_int n (by omega)
theorem shl_bl (b : Bool) : (PyData.bool b).shown.length ≤ 100 := by cases b <;> decide +kernel
theorem shl_cp {x : Str} (h : inV (.str x) cpV = true) : (PyData.str x).shown.length ≤ 100 := by rcases cp_cases h with rfl | rfl | rfl <;> decide +kernel
theorem shl_pl {x : Str} (h : inV (.str x) plV = true) : (PyData.str x).shown.length ≤ 100 := by rcases pl_cases h with rfl | rfl | rfl | rfl | rfl <;> decide +kernel
theorem srows_ok {s : S8} (hs : s.Ok) (v : B5) : ∀ r ∈ srowsB s v, r.1.length ≤ 100 ∧ r.2.1.length ≤ 60000 := by
  intro r hr
  rcases List.mem_append.mp hr with hr | hr
  · simp only [srows, List.mem_cons, List.not_mem_nil, or_false] at hr
    have a1 := shl_cp hs.c
    have a2 := shl_pl hs.p
    have a3 := shl_int hs.b0 (Int.lt_of_le_of_lt hs.b1 (by decide))
    have a4 := shl_int (Int.le_trans (by decide) hs.g0) (Int.lt_of_le_of_lt hs.g1 (by decide))
    have a5 := shl_int (Int.le_trans (by decide) hs.t0) (Int.lt_of_le_of_lt hs.t1 (by decide))
    have a6 := shl_bl
    rcases hr with rfl | rfl | rfl | rfl | rfl | rfl | rfl | rfl <;> refine ⟨by dsimp only; decide +kernel, Nat.le_trans (m := 100) ?_ (by decide)⟩ <;> first | exact a1 | exact a2 | exact a3 | exact a4 | exact a5 | exact a6 _
  · by_cases q : bookT v = "Book()"
    · rw [if_pos q] at hr
      cases hr
    · rw [if_neg q, List.mem_singleton] at hr
      subst hr
      exact ⟨by dsimp only; decide +kernel, Nat.le_trans (bookT_len v) (by decide)⟩
theorem srowsB_len (s : S8) (v : B5) : (srowsB s v).length ≤ 20 := by
  unfold srowsB
  split <;> exact (show _ ≤ 20 by simp [srows])
def spSRepr (K : PySem.W.Frag) (CS CB : Addr) : Sp := fun vs H Q _ => ∃ (a : Addr) (s : S8) (v : B5), vs = [.ref a] ∧ SetAt K CS CB H a s v ∧ ∀ H', Same H H' → Q (.str (setT s v)) H'
theorem scSRepr : FnScope ["self", "fields"] ["self"] (defScope s_Setting___repr__) := ⟨rfl, rfl, rfl, by decide +kernel, rfl, by decide +kernel, by decide +kernel⟩
theorem ok_srepr {P : Program} {w : World} {K : PySem.W.Frag} {mg : Str → Option Value} {base : Heap} {CS CB f fT fR : Addr} {fd fdT fdR : FuncData} (F : Fun K "__repr__" "Setting.__repr__" s_Setting___repr__ f fd) (U : TSt K mg CS) (rep : mg "repr" = none) (GT : Gu.FnG P w K mg base CX0 5 fT fdT ["fields"] (spTold (ItM K CB))) (DT : Def K mg "_told" fT fdT ["fields"])
    (GB : Gu.FnG P w K mg base CX0 3 fR fdR ["self"] (spBRepr K CB)) (bR : Binds K fdR ["self"] []) (sR : PySem.W.findIn K (.ref CB) "__repr__" = some (some (.ref fR))) (iR : PySem.W.isFn K (.ref fR) = true) : Gu.FnG P w K mg base CX0 6 f fd ["self"] (spSRepr K CS CB) := by
  refine Gu.ok_g F scSRepr (fun vs H Q E h => ?_) (fun cdv A outer s H vs Q E hg hr h => ?_)
  · obtain ⟨a, s, v, rfl, _⟩ := h
    rfl
  · obtain ⟨a, s, v, rfl, ⟨dx, b, ea, hs, hb⟩, k⟩ := h
    refine ⟨_, pss_cons (ps_set (i := 1) scSRepr.nd rfl (Or.inl rfl) (pe_lst (pa_cons (pe_tup (pa_cons pe_str (pa_cons (pe_fld (pv 0) rfl) (pa_cons pe_str pa_nil)))) (pa_cons (pe_tup (pa_cons pe_str (pa_cons (pe_fld (pv 0) rfl) (pa_cons pe_bl pa_nil)))) (pa_cons (pe_tup (pa_cons pe_str (pa_cons (pe_fld (pv 0) rfl) (pa_cons pe_int pa_nil)))) (pa_cons (pe_tup (pa_cons pe_str (pa_cons (pe_fld (pv 0) rfl) (pa_cons pe_bl pa_nil)))) (pa_cons (pe_tup (pa_cons pe_str (pa_cons (pe_fld (pv 0) rfl) (pa_cons pe_bl pa_nil)))) (pa_cons (pe_tup (pa_cons pe_str (pa_cons (pe_fld (pv 0) rfl) (pa_cons pe_str pa_nil)))) (pa_cons (pe_tup (pa_cons pe_str (pa_cons (pe_fld (pv 0) rfl) (pa_cons pe_int pa_nil)))) (pa_cons (pe_tup (pa_cons pe_str (pa_cons (pe_fld (pv 0) rfl) (pa_cons pe_int pa_nil)))) pa_nil))))))))))
      (pss_cons (ps_if (pt_cmpR op_ne (pe_callB (Gu.call_reprOG GB hg bR pass0 sR iR (hr.mono (by decide))) (by rfl) rep (by decide +kernel) (pa_cons (pe_fld (pv 0) rfl) pa_nil)) pe_str (nomark _))
        (pss_one (ps_expr (pe_bm PySem.F.plainAttrs_list PySem.F.slot_list_append PySem.F.type_list_append mt_append (pv 1) (pa_cons (pe_tup (pa_cons pe_str (pa_cons (pe_fld (pv 0) rfl) (pa_cons pe_non pa_nil)))) pa_nil)))) pss_nil)
      (pss_one (ps_ret (pe_joined (.cons pe_str (.cons (pe_fmt (Gu.pe_callG GT hg hr (by rfl) DT.at_ DT.kp DT.bd pass0 (pa_cons (pv 1) pa_nil))) (.cons pe_str .nil))))))), ?_⟩
    refine ⟨_, rfl, a, CS, dx, _, _, rfl, ea, U.cl, U.n1, st1 .., (by show 3 ≤ sizeLine; decide), fun u1 n1 => ?_⟩
    generalize hH : upd _ u1 _ = H1
    have s1 : Same H H1 := by rw [← hH]; exact put_same n1
    have e1 : H1 u1 = some (.tup [.str "copies", .str s.copies, .str "none"]) := by rw [← hH]; exact upd_same
    clear hH
    have k1 : Same H H1 := s1
    refine ⟨_, rfl, a, CS, dx, _, _, rfl, (k1 _ _ ea), U.cl, U.n2, st2 .., (by show 3 ≤ sizeLine; decide), fun u2 n2 => ?_⟩
    generalize hH : upd _ u2 _ = H2
    have s2 : Same H1 H2 := by rw [← hH]; exact put_same n2
    have e2 : H2 u2 = some (.tup [.str "cached", .bl s.cached, .bl false]) := by rw [← hH]; exact upd_same
    clear hH
    have k2 : Same H H2 := k1.trans s2
    replace e1 := s2 _ _ e1
    refine ⟨_, rfl, a, CS, dx, _, _, rfl, (k2 _ _ ea), U.cl, U.n3, st3 .., (by show 3 ≤ sizeLine; decide), fun u3 n3 => ?_⟩
    generalize hH : upd _ u3 _ = H3
    have s3 : Same H2 H3 := by rw [← hH]; exact put_same n3
    have e3 : H3 u3 = some (.tup [.str "batch", .int s.batch, .int 0]) := by rw [← hH]; exact upd_same
    clear hH
    have k3 : Same H H3 := k2.trans s3
    replace e1 := s3 _ _ e1
    replace e2 := s3 _ _ e2
    refine ⟨_, rfl, a, CS, dx, _, _, rfl, (k3 _ _ ea), U.cl, U.n4, st4 .., (by show 3 ≤ sizeLine; decide), fun u4 n4 => ?_⟩
    generalize hH : upd _ u4 _ = H4
    have s4 : Same H3 H4 := by rw [← hH]; exact put_same n4
    have e4 : H4 u4 = some (.tup [.str "early", .bl s.early, .bl false]) := by rw [← hH]; exact upd_same
    clear hH
    have k4 : Same H H4 := k3.trans s4
    replace e1 := s4 _ _ e1
    replace e2 := s4 _ _ e2
    replace e3 := s4 _ _ e3
    refine ⟨_, rfl, a, CS, dx, _, _, rfl, (k4 _ _ ea), U.cl, U.n5, st5 .., (by show 3 ≤ sizeLine; decide), fun u5 n5 => ?_⟩
    generalize hH : upd _ u5 _ = H5
    have s5 : Same H4 H5 := by rw [← hH]; exact put_same n5
    have e5 : H5 u5 = some (.tup [.str "drain", .bl s.drain, .bl true]) := by rw [← hH]; exact upd_same
    clear hH
    have k5 : Same H H5 := k4.trans s5
    replace e1 := s5 _ _ e1
    replace e2 := s5 _ _ e2
    replace e3 := s5 _ _ e3
    replace e4 := s5 _ _ e4
    refine ⟨_, rfl, a, CS, dx, _, _, rfl, (k5 _ _ ea), U.cl, U.n6, st6 .., (by show 3 ≤ sizeLine; decide), fun u6 n6 => ?_⟩
    generalize hH : upd _ u6 _ = H6
    have s6 : Same H5 H6 := by rw [← hH]; exact put_same n6
    have e6 : H6 u6 = some (.tup [.str "policy", .str s.policy, .str "first"]) := by rw [← hH]; exact upd_same
    clear hH
    have k6 : Same H H6 := k5.trans s6
    replace e1 := s6 _ _ e1
    replace e2 := s6 _ _ e2
    replace e3 := s6 _ _ e3
    replace e4 := s6 _ _ e4
    replace e5 := s6 _ _ e5
    refine ⟨_, rfl, a, CS, dx, _, _, rfl, (k6 _ _ ea), U.cl, U.n7, st7 .., (by show 3 ≤ sizeLine; decide), fun u7 n7 => ?_⟩
    generalize hH : upd _ u7 _ = H7
    have s7 : Same H6 H7 := by rw [← hH]; exact put_same n7
    have e7 : H7 u7 = some (.tup [.str "groups", .int s.groups, .int 16]) := by rw [← hH]; exact upd_same
    clear hH
    have k7 : Same H H7 := k6.trans s7
    replace e1 := s7 _ _ e1
    replace e2 := s7 _ _ e2
    replace e3 := s7 _ _ e3
    replace e4 := s7 _ _ e4
    replace e5 := s7 _ _ e5
    replace e6 := s7 _ _ e6
    refine ⟨_, rfl, a, CS, dx, _, _, rfl, (k7 _ _ ea), U.cl, U.n8, st8 .., (by show 3 ≤ sizeLine; decide), fun u8 n8 => ?_⟩
    generalize hH : upd _ u8 _ = H8
    have s8 : Same H7 H8 := by rw [← hH]; exact put_same n8
    have e8 : H8 u8 = some (.tup [.str "tables", .int s.tables, .int 16]) := by rw [← hH]; exact upd_same
    clear hH
    have k8 : Same H H8 := k7.trans s8
    replace e1 := s8 _ _ e1
    replace e2 := s8 _ _ e2
    replace e3 := s8 _ _ e3
    replace e4 := s8 _ _ e4
    replace e5 := s8 _ _ e5
    replace e6 := s8 _ _ e6
    replace e7 := s8 _ _ e7
    refine ⟨(by show 8 ≤ sizeLine; decide), fun l nl => ?_⟩
    generalize hH : upd _ l _ = HL
    have sl : Same H8 HL := by rw [← hH]; exact put_same nl
    have el : HL l = some (.lst [.ref u1, .ref u2, .ref u3, .ref u4, .ref u5, .ref u6, .ref u7, .ref u8]) := by rw [← hH]; exact upd_same
    clear hH
    have kl := k8.trans sl
    replace e1 := sl _ _ e1
    replace e2 := sl _ _ e2
    replace e3 := sl _ _ e3
    replace e4 := sl _ _ e4
    replace e5 := sl _ _ e5
    replace e6 := sl _ _ e6
    replace e7 := sl _ _ e7
    replace e8 := sl _ _ e8
    have hb1 := hb.same kl
    obtain ⟨dxb, _, _, _, _, _, eb, _⟩ := id hb1
    have small : ∀ {n : Nat}, n ≤ 2000000 → n ≤ sizeLine := fun h => Nat.le_trans h (by decide)
    have b1 : ((Str.empty ++ "Setting(" : Str)).length = 8 := by decide +kernel
    have b2 := toldT_len (srows_ok hs v) (srowsB_len s v)
    have b4 : (setT s v).length ≤ 2000000 := by
      unfold setT
      rw [strLen_append, strLen_append, b1, show ((")" : Str)).length = 1 by decide +kernel]
      omega
    have b5 : (((Str.empty ++ "Setting(" : Str)) ++ toldT (srowsB s v)).length ≤ 2000000 := by
      rw [strLen_append, b1]
      omega
    refine ⟨_, rfl, a, CS, dx, _, _, rfl, kl _ _ ea, U.cl, U.n9, st9 .., b, dxb, _, rfl, eb, b, v, rfl, hb1, fun H9 s9 => ⟨_, rfl, rfl, !decide (V.str (bookT v) = V.str "Book()"), rfl, ?_⟩⟩
    replace e1 := s9 _ _ e1
    replace e2 := s9 _ _ e2
    replace e3 := s9 _ _ e3
    replace e4 := s9 _ _ e4
    replace e5 := s9 _ _ e5
    replace e6 := s9 _ _ e6
    replace e7 := s9 _ _ e7
    replace e8 := s9 _ _ e8
    replace el := s9 _ _ el
    have hb9 := hb1.same s9
    have k9 := kl.trans s9
    by_cases q : bookT v = "Book()"
    · rw [show (!decide (V.str (bookT v) = V.str "Book()")) = false by rw [q]; simp]
      refine iteF ?_
      have er : srowsB s v = srows s := by unfold srowsB; rw [if_pos q, List.append_nil]
      refine ⟨_, rfl, small (by omega), _, rfl, l, [u1, u2, u3, u4, u5, u6, u7, u8], srowsB s v, rfl, el, by rw [er]; exact (.cons ⟨_, _, e1, .inl ⟨_, _, .str _, .str _, io_shaped (io_cp hs.c), io_shaped (io_cp (by decide +kernel)), io_shows (io_cp hs.c), rfl, rfl⟩⟩ (.cons ⟨_, _, e2, .inl ⟨_, _, .bl _, .bl _, io_shaped (io_bl _), io_shaped (io_bl _), io_shows (io_bl _), rfl, rfl⟩⟩ (.cons ⟨_, _, e3, .inl ⟨_, _, .int _, .int _, io_shaped (io_int hs.b0 (Int.lt_of_le_of_lt hs.b1 (by decide))), io_shaped (io_int (by decide) (by decide)), io_shows (io_int hs.b0 (Int.lt_of_le_of_lt hs.b1 (by decide))), rfl, rfl⟩⟩ (.cons ⟨_, _, e4, .inl ⟨_, _, .bl _, .bl _, io_shaped (io_bl _), io_shaped (io_bl _), io_shows (io_bl _), rfl, rfl⟩⟩ (.cons ⟨_, _, e5, .inl ⟨_, _, .bl _, .bl _, io_shaped (io_bl _), io_shaped (io_bl _), io_shows (io_bl _), rfl, rfl⟩⟩ (.cons ⟨_, _, e6, .inl ⟨_, _, .str _, .str _, io_shaped (io_pl hs.p), io_shaped (io_pl (by decide +kernel)), io_shows (io_pl hs.p), rfl, rfl⟩⟩ (.cons ⟨_, _, e7, .inl ⟨_, _, .int _, .int _, io_shaped (io_int (Int.le_trans (by decide) hs.g0) (Int.lt_of_le_of_lt hs.g1 (by decide))), io_shaped (io_int (by decide) (by decide)), io_shows (io_int (Int.le_trans (by decide) hs.g0) (Int.lt_of_le_of_lt hs.g1 (by decide))), rfl, rfl⟩⟩ (.cons ⟨_, _, e8, .inl ⟨_, _, .int _, .int _, io_shaped (io_int (Int.le_trans (by decide) hs.t0) (Int.lt_of_le_of_lt hs.t1 (by decide))), io_shaped (io_int (by decide) (by decide)), io_shows (io_int (Int.le_trans (by decide) hs.t0) (Int.lt_of_le_of_lt hs.t1 (by decide))), rfl, rfl⟩⟩ .nil)))))))), srowsB_len s v, srows_ok hs v, fun H' s' => .inl ⟨_, rfl, small (by omega), _, rfl, small b5, _, rfl, small b4, k _ (k9.trans s')⟩⟩
    · rw [show (!decide (V.str (bookT v) = V.str "Book()")) = true by simp [q]]
      refine iteT ⟨_, rfl, .inl ⟨rfl, _, SqL.of el⟩, _, rfl, a, CS, dx, _, _, rfl, k9 _ _ ea, U.cl, U.n9, st9 .., (by show 3 ≤ sizeLine; decide), fun t nt => ?_⟩
      generalize hH : upd _ t _ = HT
      have st : Same H9 HT := by rw [← hH]; exact put_same nt
      have et : HT t = some (.tup [.str "book", .ref b, .non]) := by rw [← hH]; exact upd_same
      clear hH
      replace e1 := st _ _ e1
      replace e2 := st _ _ e2
      replace e3 := st _ _ e3
      replace e4 := st _ _ e4
      replace e5 := st _ _ e5
      replace e6 := st _ _ e6
      replace e7 := st _ _ e7
      replace e8 := st _ _ e8
      replace el := st _ _ el
      have hb10 := hb9.same st
      have k10 := k9.trans st
      refine ⟨l, _, _, rfl, rfl, el, (by show 8 < sizeLine; decide), ?_⟩
      have off : ∀ {c : Addr} {o : HO}, HT c = some o → (∀ xs, o ≠ .lst xs) → (upd HT l (.lst ([.ref u1, .ref u2, .ref u3, .ref u4, .ref u5, .ref u6, .ref u7, .ref u8] ++ [.ref t]))) c = some o := fun {c o} e n => by
        rw [upd_ne (fun z => by rw [z, el] at e; exact n _ (Option.some.inj e).symm)]
        exact e
      have nlH : H l = none := k8.free nl
      have er : srowsB s v = srows s ++ ([("book", bookT v, true)] : List Itm) := by unfold srowsB; rw [if_neg q]
      have hb11 : BookAt K CB (upd HT l (.lst ([.ref u1, .ref u2, .ref u3, .ref u4, .ref u5, .ref u6, .ref u7, .ref u8] ++ [.ref t]))) b v := by
        obtain ⟨d, t1, t2, t3, t4, t5, q0, qv, q1, q2, q3, q4, q5⟩ := hb10
        have sq : ∀ {c : Addr} {xs : List V}, SqT K HT c xs → SqT K (upd HT l (.lst ([.ref u1, .ref u2, .ref u3, .ref u4, .ref u5, .ref u6, .ref u7, .ref u8] ++ [.ref t]))) c xs := fun h => sqT_upd h (fun ys z => by rw [el] at z; cases z) (fun o ys z => by rw [el] at z; cases z) fun c o n e => by rw [upd_ne n]; exact e
        exact ⟨d, t1, t2, t3, t4, t5, off q0 (fun xs z => by cases z), qv, sq q1, sq q2, sq q3, sq q4, sq q5⟩
      have kk : ∀ c o, H c = some o → (upd HT l (.lst ([.ref u1, .ref u2, .ref u3, .ref u4, .ref u5, .ref u6, .ref u7, .ref u8] ++ [.ref t]))) c = some o := fun c o e => by
        rw [upd_ne (ne_of_none e nlH)]
        exact k10 _ _ e
      refine ⟨_, rfl, small (by omega), _, rfl, l, [u1, u2, u3, u4, u5, u6, u7, u8, t], srowsB s v, rfl, upd_same, by rw [er]; exact (.cons ⟨_, _, off e1 (fun xs z => by cases z), .inl ⟨_, _, .str _, .str _, io_shaped (io_cp hs.c), io_shaped (io_cp (by decide +kernel)), io_shows (io_cp hs.c), rfl, rfl⟩⟩ (.cons ⟨_, _, off e2 (fun xs z => by cases z), .inl ⟨_, _, .bl _, .bl _, io_shaped (io_bl _), io_shaped (io_bl _), io_shows (io_bl _), rfl, rfl⟩⟩ (.cons ⟨_, _, off e3 (fun xs z => by cases z), .inl ⟨_, _, .int _, .int _, io_shaped (io_int hs.b0 (Int.lt_of_le_of_lt hs.b1 (by decide))), io_shaped (io_int (by decide) (by decide)), io_shows (io_int hs.b0 (Int.lt_of_le_of_lt hs.b1 (by decide))), rfl, rfl⟩⟩ (.cons ⟨_, _, off e4 (fun xs z => by cases z), .inl ⟨_, _, .bl _, .bl _, io_shaped (io_bl _), io_shaped (io_bl _), io_shows (io_bl _), rfl, rfl⟩⟩ (.cons ⟨_, _, off e5 (fun xs z => by cases z), .inl ⟨_, _, .bl _, .bl _, io_shaped (io_bl _), io_shaped (io_bl _), io_shows (io_bl _), rfl, rfl⟩⟩ (.cons ⟨_, _, off e6 (fun xs z => by cases z), .inl ⟨_, _, .str _, .str _, io_shaped (io_pl hs.p), io_shaped (io_pl (by decide +kernel)), io_shows (io_pl hs.p), rfl, rfl⟩⟩ (.cons ⟨_, _, off e7 (fun xs z => by cases z), .inl ⟨_, _, .int _, .int _, io_shaped (io_int (Int.le_trans (by decide) hs.g0) (Int.lt_of_le_of_lt hs.g1 (by decide))), io_shaped (io_int (by decide) (by decide)), io_shows (io_int (Int.le_trans (by decide) hs.g0) (Int.lt_of_le_of_lt hs.g1 (by decide))), rfl, rfl⟩⟩ (.cons ⟨_, _, off e8 (fun xs z => by cases z), .inl ⟨_, _, .int _, .int _, io_shaped (io_int (Int.le_trans (by decide) hs.t0) (Int.lt_of_le_of_lt hs.t1 (by decide))), io_shaped (io_int (by decide) (by decide)), io_shows (io_int (Int.le_trans (by decide) hs.t0) (Int.lt_of_le_of_lt hs.t1 (by decide))), rfl, rfl⟩⟩ (.cons ⟨_, _, off et (fun xs z => by cases z), .inr ⟨b, v, rfl, hb11, rfl, rfl, rfl⟩⟩ .nil))))))))), srowsB_len s v, srows_ok hs v, fun H' s' => .inl ⟨_, rfl, small (by omega), _, rfl, small b5, _, rfl, small b4, k _ (Same.trans kk s')⟩⟩
end Sc
namespace Sc
open PySem L2
def ItW (K : PySem.W.Frag) (H : Hp) (r : Itm) (x y : V) : Prop := ∃ d e, Dp K H x d ∧ Dp K H y e ∧ Gu.Shows d ∧ Gu.Shows e ∧ r.2.1 = d.shown ∧ r.2.2 = !decide (V.str d.shown = V.str e.shown)
theorem ItW.same {K : PySem.W.Frag} {H H' : Hp} {r : Itm} {x y : V} (h : ItW K H r x y) (k : Same H H') : ItW K H' r x y := by
  obtain ⟨d, e, h1, h2, h3⟩ := h
  exact ⟨d, e, Dd2.dp_same h1 k, Dd2.dp_same h2 k, h3⟩
theorem emp_app (s : Str) : Str.empty ++ s = s := by
  exact PySem.Str.empty_append s
abbrev NWo : List Str := ["_law_pairs", "_law_name", "_law_value", "_law_other"]
theorem scWords : FnScope NWo ["_law_pairs"] (defScope s__law_words) := ⟨rfl, rfl, rfl, by decide +kernel, rfl, by decide +kernel, by decide +kernel⟩
theorem ok_lwords {P : Program} {w : World} {K : PySem.W.Frag} {mg : Str → Option Value} {base : Heap} {f : Addr} {fd : FuncData} (F : Fun K "_law_words" "_law_words" s__law_words f fd) (rep : mg "repr" = none) : Gu.FnG P w K mg base CX0 2 f fd ["_law_pairs"] (spTold (ItW K)) := by
  refine Gu.ok_g F scWords (fun vs H Q E h => ?_) (fun cdv A outer s H vs Q E hg hr h => ?_)
  · obtain ⟨l, ps, rs, rfl, _⟩ := h
    rfl
  · obtain ⟨l, ps, rs, rfl, hl, hp, hn, hz, k⟩ := h
    have u65 : (A.deeper (PyProof.Rows.envOfC "_law_words" (defScope s__law_words) s.heap.objs.size f cdv)).units + 65 < cLine := by have := hr.un; omega
    refine ⟨_, pss_one (ps_ret (pe_join pe_str (pe_lc (own := [("_law_name", 1), ("_law_value", 2), ("_law_other", 3)]) (g := gTup K 3 (gCons (gName 1) (gCons (gName 2) (gCons (gName 3) gNil)))) rfl scWords.nd (pi_list (pv 0)) (blkOk_by (N := NWo) (sc := defScope s__law_words) (by decide +kernel))
      (fun _ _ _ _ _ => pg_tup rfl (pgs_cons (pg_name (i := 1) scWords.nd rfl (Or.inl rfl)) (pgs_cons (pg_name (i := 2) scWords.nd rfl (Or.inl rfl)) (pgs_cons (pg_name (i := 3) scWords.nd rfl (Or.inl rfl)) pgs_nil)))) (fun _ _ _ _ _ => pts_one (pt_cmpR op_ne (pe_callB (r := Gu.rReprA K) (Gu.call_reprA hg u65) (by rfl) rep (by decide +kernel) (pa_cons (pv 2) pa_nil)) (pe_callB (r := Gu.rReprA K) (Gu.call_reprA hg u65) (by rfl) rep (by decide +kernel) (pa_cons (pv 3) pa_nil)) (nomark _)))
      (fun _ _ _ _ _ => (pe_op op_add_str (pe_op op_add_str (pv 1) pe_str) (pe_callB (r := Gu.rReprA K) (Gu.call_reprA hg u65) (by rfl) rep (by decide +kernel) (pa_cons (pv 2) pa_nil))))))), ?_⟩
    have small : ∀ {n : Nat}, n ≤ 70000 → n ≤ sizeLine := fun h => Nat.le_trans h (by decide)
    have hlen := paired_len hp
    refine ⟨⟨_, rfl⟩, _, rfl, l, rfl, ⟨_, SqL.of hl⟩, fun D nD => lc_list (K := K) (a := l) (xs := ps.map V.ref) (fun i H' => Same H H' ∧ H' D = some (.lst ((pieces (rs.take i)).map V.str))) ⟨put_same nD, upd_same⟩ (fun i H' _ p => SqL.of (p.1 _ _ hl)) (fun i x H' hx p => ?_) fun H' p => ?_⟩
    · rw [List.getElem?_map] at hx
      obtain ⟨t, ht, rfl⟩ := Option.map_eq_some_iff.mp hx
      have il : i < rs.length := by
        have := (List.getElem?_eq_some_iff.mp ht).1
        omega
      have er : rs[i]? = some rs[i] := List.getElem?_eq_getElem il
      obtain ⟨x, y, et, ir⟩ := paired_ith hp ht er
      obtain ⟨z1, z2⟩ := hz _ (List.getElem_mem il)
      have grow : pieces (rs.take (i + 1)) = pieces (rs.take i) ++ (if rs[i].2.2 = true then [pcs rs[i].1 rs[i].2.1] else []) := by
        rw [List.take_add_one, er]
        exact pieces_snoc _ _
      have few : (pieces (rs.take i)).length < sizeLine := by
        have q : (pieces (rs.take i)).length ≤ (rs.take i).length := by
          unfold pieces
          rw [List.length_map]
          exact List.length_filter_le _ _
        rw [List.length_take] at q
        exact Nat.lt_of_le_of_lt (show _ ≤ 20 by omega) (by decide)
      have pl := pcs_len z1 z2
      refine ⟨t, _, rfl, .inl (.inl (p.1 _ _ et)), rfl, _, _, rfl, _, _, rfl, _, _, rfl, rfl, rfl, ?_⟩
      have ir' := ir.same p.1
      have a1 : (Str.empty ++ rs[i].1).length ≤ 70000 := by rw [strLen_append, show (Str.empty : Str).length = 0 from rfl]; omega
      have a2 : ((Str.empty ++ rs[i].1) ++ "=").length ≤ 70000 := by rw [strLen_append, strLen_append, show (Str.empty : Str).length = 0 from rfl, show (("=" : Str)).length = 1 by decide +kernel]; omega
      have a3 : (pcs rs[i].1 rs[i].2.1).length ≤ 70000 := by omega
      have step : ∀ H4, Same H' H4 → ∃ acc, H4 D = some (.lst acc) ∧ acc.length < sizeLine ∧ (rs[i].2.2 = true → (Same H (upd H4 D (.lst (acc ++ [.str (pcs rs[i].1 rs[i].2.1)]))) ∧ (upd H4 D (.lst (acc ++ [.str (pcs rs[i].1 rs[i].2.1)]))) D = some (.lst ((pieces (rs.take (i + 1))).map V.str)))) := fun H4 s4 => by
        refine ⟨_, s4 _ _ p.2, by rw [List.length_map]; exact few, fun hc => ⟨fun c o e => ?_, ?_⟩⟩
        · rw [upd_ne (ne_of_none e nD)]
          exact s4 _ _ (p.1 _ _ e)
        · rw [upd_same, grow, if_pos hc, List.map_append]
          rfl
      obtain ⟨d, e, hd, he, sd, se, ed, ee⟩ := ir'
      refine ⟨_, rfl, x, d, rfl, hd, sd, _, rfl, y, e, rfl, he, se, rfl, rs[i].2.2, by rw [ee], ?_⟩
      have en : (rs[i].1 ++ "=") ++ d.shown = pcs rs[i].1 rs[i].2.1 := by
        unfold pcs
        rw [ed, show Str.empty ++ rs[i].1 = rs[i].1 from emp_app _]
      cases hc : rs[i].2.2 with
      | true =>
        obtain ⟨acc, w1, w2, w3⟩ := step H' (Same.refl _)
        obtain ⟨w4, w5⟩ := w3 hc
        rw [← en] at w4 w5 a3
        have a4 : (rs[i].1 ++ "=").length ≤ 70000 := by rw [strLen_append, show (("=" : Str)).length = 1 by decide +kernel]; omega
        have a5 : d.shown.length ≤ 60000 := by rw [← ed]; exact z2
        exact iteT ⟨_, rfl, _, _, rfl, rfl, small (by rw [show (("=" : Str)).length = 1 by decide +kernel]; omega), _, rfl, x, d, rfl, hd, sd, _, _, rfl, rfl, Nat.le_trans (show _ ≤ 140000 by omega) (by decide), acc, w1, w2, w4, w5⟩
      | false =>
        refine iteF ⟨p.1, ?_⟩
        rw [p.2, grow, hc]
        simp
    · obtain ⟨s1, e1⟩ := p
      rw [List.length_map, hlen, List.take_length] at e1
      obtain ⟨q1, q2⟩ := pieces_sz hz
      refine ⟨", ", D, pieces rs, rfl, rfl, .inl (SqL.of e1), ?_, k _ s1⟩
      rw [show ((", " : Str)).length = 2 by decide +kernel]
      have q3 : (60000 + 101) * rs.length ≤ (60000 + 101) * 20 := Nat.mul_le_mul_left _ hn
      omega
end Sc
namespace Sc
open PySem L2
/-! ### safe; what odd values are -/
def spSafe (K : PySem.W.Frag) (CS CB : Addr) : Sp := fun vs H Q _ => ∃ (a : Addr) (s : S8) (v : B5), vs = [.ref a] ∧ SetAt K CS CB H a s v ∧ Q (.bl (s.drain && (!s.early || decide (s.batch = 0)))) H
theorem scSafe : FnScope ["self"] ["self"] (defScope s_Setting_safe) := ⟨rfl, rfl, rfl, by decide +kernel, rfl, by decide +kernel, by decide +kernel⟩
theorem ok_safe {P : Program} {w : World} {K : PySem.W.Frag} {mg : Str → Option Value} {base : Heap} {CS CB f : Addr} {fd : FuncData} (F : Fun K "safe" "Setting.safe" s_Setting_safe f fd) (U : TSt K mg CS) : FnOk P w K mg base CX0 1 f fd ["self"] (spSafe K CS CB) := by
  refine F.ok scSafe (fun vs H Q E h => ?_) (fun cdv A outer s H vs Q E hr h => ?_)
  · obtain ⟨a, s, v, rfl, _⟩ := h
    rfl
  · obtain ⟨a, ⟨s1, s2, s3, s4, s5, s6, s7, s8⟩, v, rfl, ⟨dx, b, ea, hs, hb⟩, k⟩ := h
    refine ⟨_, pss_one (ps_ret (pe_and (pe_fld (pv 0) rfl) (pe_one (pe_or (pe_not (pe_fld (pv 0) rfl)) (pe_one (pe_cmpR op_eq (pe_fld (pv 0) rfl) pe_int (nomark _))))))), ?_⟩
    refine ⟨_, rfl, a, CS, dx, _, _, rfl, ea, U.cl, U.n5, st5 .., _, rfl, ?_⟩
    cases s5 with
    | false => exact iteF k
    | true =>
      refine iteT ⟨_, rfl, a, CS, dx, _, _, rfl, ea, U.cl, U.n4, st4 .., _, rfl, _, rfl, ?_⟩
      cases s4 with
      | false => exact iteT k
      | true =>
        refine iteF ⟨_, rfl, a, CS, dx, _, _, rfl, ea, U.cl, U.n3, st3 .., rfl, ?_⟩
        have e : decide (V.int s3 = V.int 0) = (true && (!true || decide (s3 = 0))) := by
          by_cases z : s3 = 0
          · rw [z]; rfl
          · rw [decide_eq_false z, decide_eq_false fun q => z (by injection q)]; rfl
        rw [e]
        exact k
/-- the check of the k-th argument -/
def chk : Nat → PyData → Bool
  | 0 => inTD cpW
  | 1 => isBoolD
  | 2 => wholeD 0 8
  | 3 => isBoolD
  | 4 => isBoolD
  | 5 => inTD plW
  | 6 => wholeD 1 32
  | 7 => wholeD 1 32
  | _ => fun _ => false
theorem odd_bad : ∀ k, k < 9 → ∀ d ∈ oddL k, chk k d = false ∧ SeqAt.shaped d = true := by decide +kernel
theorem odd_some : ∀ k, k < 9 → (oddL k).all (fun d => match d with | .none => k != 8 | _ => true) = true := by decide +kernel
theorem oddD_bad : ∀ d ∈ oddDs, dirsD d = false ∧ SeqAt.shaped d = true := by decide +kernel
/-- the first row that is not right -/
theorem first_at : ∀ {xs : List (Str × Bool)} {i : Nat} {n : Str}, xs[i]? = some (n, false) → (∀ j, j < i → ∀ r, xs[j]? = some r → r.2 = true) → firstBad xs = some n
  | [], i, n, h, _ => by simp at h
  | (m, b) :: xs, 0, n, h, _ => by
    cases h
    rfl
  | (m, b) :: xs, i + 1, n, h, hj => by
    have hb : b = true := hj 0 (Nat.succ_pos _) (m, b) rfl
    subst hb
    have ih := first_at (xs := xs) (i := i) (n := n) h fun j hj' r hr => hj (j + 1) (Nat.succ_lt_succ hj') r hr
    unfold firstBad at ih ⊢
    rw [List.find?_cons_of_neg (by simp)]
    exact ih
theorem first_none {xs : List (Str × Bool)} (h : ∀ r ∈ xs, r.2 = true) : firstBad xs = none := by
  unfold firstBad
  rw [List.find?_eq_none.mpr fun r hr => by rw [h r hr]; decide]
  rfl
end Sc
namespace Sc
open PySem L2
/-! ### equal values and equal texts -/
/-- the two agree -/
def Agr (d e : PyData) : Prop := PyData.eqv d e = decide (V.str d.shown = V.str e.shown)
instance (d e : PyData) : Decidable (Agr d e) := by unfold Agr; infer_instance
theorem agr_w : ∀ m, m < 8 → ∀ n, n < 8 → Agr (dW m) (dW n) := by decide +kernel
theorem agr_bl : ∀ a b : Bool, Agr (.bool a) (.bool b) := by decide +kernel
theorem agr_int0 : ∀ n : Nat, n < 33 → Agr (.int n) (.int 0) ∧ Agr (.int n) (.int 16) := by decide +kernel
theorem agr_cp {x : Str} (h : inV (.str x) cpV = true) : Agr (.str x) (.str "none") := by rcases cp_cases h with rfl | rfl | rfl <;> decide +kernel
theorem agr_pl {x : Str} (h : inV (.str x) plV = true) : Agr (.str x) (.str "first") := by rcases pl_cases h with rfl | rfl | rfl | rfl | rfl <;> decide +kernel
theorem agr_i {i : Int} (h0 : 0 ≤ i) (h1 : i ≤ 32) : Agr (.int i) (.int 0) ∧ Agr (.int i) (.int 16) := by
  obtain ⟨n, rfl⟩ := Int.eq_ofNat_of_zero_le h0
  exact agr_int0 n (by omega)
/-- the law's rows of a setting, of a book -/
def lrow (n : Str) (d e : PyData) : Itm := (n, d.shown, !decide (V.str d.shown = V.str e.shown))
theorem srows_law {s : S8} (hs : s.Ok) : srows s = [lrow "copies" (.str s.copies) (.str "none"), lrow "cached" (.bool s.cached) (.bool false), lrow "batch" (.int s.batch) (.int 0), lrow "early" (.bool s.early) (.bool false), lrow "drain" (.bool s.drain) (.bool true), lrow "policy" (.str s.policy) (.str "first"), lrow "groups" (.int s.groups) (.int 16), lrow "tables" (.int s.tables) (.int 16)] := by
  have a1 : PyData.eqv _ _ = _ := agr_cp hs.c
  have a2 : PyData.eqv _ _ = _ := agr_pl hs.p
  have a3 : PyData.eqv _ _ = _ := (agr_i hs.b0 (Int.le_trans hs.b1 (by decide))).1
  have a4 : PyData.eqv _ _ = _ := (agr_i (Int.le_trans (by decide) hs.g0) hs.g1).2
  have a5 : PyData.eqv _ _ = _ := (agr_i (Int.le_trans (by decide) hs.t0) hs.t1).2
  have a6 : PyData.eqv _ _ = _ := agr_bl s.cached false
  have a7 : PyData.eqv _ _ = _ := agr_bl s.early false
  have a8 : PyData.eqv _ _ = _ := agr_bl s.drain true
  unfold srows lrow
  rw [a1, a2, a3, a4, a5, a6, a7, a8]
theorem brows_law {v : B5} (hv : ok5 v) : brows v = [lrow "cleaned" (dW v.1) (dW 7), lrow "dropped" (dW v.2.1) (dW 6), lrow "bind_copied" (dW v.2.2.1) (dW 7), lrow "give_copied" (dW v.2.2.2.1) (dW 7), lrow "take_copied" (dW v.2.2.2.2) (dW 6)] := by
  obtain ⟨h1, h2, h3, h4, h5⟩ := hv
  have a1 : PyData.eqv _ _ = _ := agr_w _ h1 7 (by decide)
  have a2 : PyData.eqv _ _ = _ := agr_w _ h2 6 (by decide)
  have a3 : PyData.eqv _ _ = _ := agr_w _ h3 7 (by decide)
  have a4 : PyData.eqv _ _ = _ := agr_w _ h4 7 (by decide)
  have a5 : PyData.eqv _ _ = _ := agr_w _ h5 6 (by decide)
  unfold brows lrow
  rw [a1, a2, a3, a4, a5]
end Sc
/-! A law's end at the very top, for a law that makes lambdas (tables of code objects). -/
namespace Tp
open PySem PySem.Spec PyProof.Rows L2 LamX
/-- the run of the law's def at the top, with the tables of cs -/
def TopT (P : Program) (w : World) (K : PySem.W.Frag) (mg : Str → Option Value) (fa : Addr) (n : Nat) (cs : List (Addr × Addr)) : Prop :=
  ∀ (base : Heap) (s : Shared) (H : Hp) (a : Addr) (ns : List Int), ns.length ≤ n → K.In base → base.Ns mainGlobals mg → (∀ p ∈ cs, TabB base mg p.1 p.2) → Env0 P w K mg base callerA [] s H → (∀ p ∈ cs, H p.2 = some (.tbl #[])) → SqL K H a (ns.map V.int) →
    codeAny (model P w) callerA (.call (.ref fa) ⟨[.ref a], []⟩) (CR C8.CX0 [] P w H s (fun v _ => v = .bl true) fun _ _ _ => False) s
section
variable {P : Program} {w : World} {K : PySem.W.Frag} {mg mb : Str → Option Value} {fa a : Addr} {s₁ : Shared} {vs : List Value} {ns : List Int} {H : Hp} {cs : List (Addr × Addr)}
/-- an object of the heap that is neither a list nor a table is not tracked -/
def Plain (o : Obj) : Prop := (∀ xs n, o.data ≠ .seq xs n) ∧ o.data ≠ .fields #[]
theorem plain_d {o : Obj} {es : Array DictEntry} {ep : Nat} (d : o.data = .dict es ep) : Plain o := ⟨fun _ _ z => (by rw [d] at z; cases z), fun z => (by rw [d] at z; cases z)⟩
structure Trk (P : Program) (w : World) (K : PySem.W.Frag) (s₁ : Shared) (a : Addr) (vs : List Value) (cs : List (Addr × Addr)) (H : Hp) : Prop where
  hok : HOk P w H s₁.heap
  out : ∀ b, H b = none ∨ b = a ∨ ∃ p ∈ cs, p.2 = b
  kA : H a ≠ none → K.lookup a = none
  tb : ∀ p ∈ cs, H p.2 = some (.tbl #[])
  fz : ∀ b, H b = none ∨ (∃ p ∈ cs, p.2 = b) ∨ ∃ o xs, H b = some (.frz o (.lst xs))
theorem run_topT {n : Nat} (KX : K.In s₁.heap) (hns : s₁.heap.Ns mainGlobals mg) (hb : s₁.heap.Ns builtinsNs mb) (hbb : ∀ x : Str, x ≠ "__name__" → mb x = bootBuiltins x) (hlim : s₁.heap.NoLimit) (hg : s₁.gens = #[])
    (hT : ∀ p ∈ cs, s₁.heap.get? p.2 = some { cls := .none, data := .fields #[] }) (nT : ∀ p ∈ cs, K.lookup p.2 = none) (C : ∀ p ∈ cs, PySem.W.CodeHd s₁.heap p.1 p.2)
    (hbm : ∃ (bm : Addr) (ob : Obj), mg "__builtins__" = some (.ref bm) ∧ bm ≠ builtinsNs ∧ s₁.heap.get? bm = some ob ∧ ob.cls = .type "module" ∧ ob.dict = some builtinsNs ∧ ob.data = .plain)
    (ha : s₁.heap.get? a = some { cls := .type "list", data := .seq vs.toArray }) (hl : ns.length ≤ n) (F : TopT P w K mg fa n cs) (t : Trk P w K s₁ a vs cs H) (hS : SqL K H a (ns.map V.int)) :
    codeAny (model P w) callerA (.call (.ref fa) ⟨[.ref a], []⟩) (fun r s' => r = .ok (.ret (.bool true)) ∧ OldK s₁.heap s'.heap ∧ s'.os = s₁.os ∧ AllBare s'.gens) s₁ := by
  have free : ∀ {b : Addr} {o : Obj}, s₁.heap.get? b = some o → Plain o → H b = none := fun {b o} e p => by
    rcases t.out b with z | rfl | ⟨q, hq, rfl⟩
    · exact z
    · rw [ha] at e
      cases e
      exact absurd rfl (p.1 _ _)
    · rw [hT q hq] at e
      cases e
      exact absurd rfl p.2
  have hid : ∀ {b : Addr} {o : Obj}, s₁.heap.get? b = some o → Plain o → (hidT s₁.heap H).get? b = some o := fun e p => hidT_get e (free e p)
  have nsd : ∀ {b : Addr} {m : Str → Option Value}, s₁.heap.Ns b m → (hidT s₁.heap H).Ns b m := fun {b m} z => by
    obtain ⟨o, es, ep, e, d, r⟩ := z
    exact ⟨o, es, ep, hid e (plain_d d), d, r⟩
  have kin : K.In (hidT s₁.heap H) := fun b o e => hidT_get (KX b o e) (by
    rcases t.out b with z | rfl | ⟨q, hq, rfl⟩
    · exact z
    · cases q : H b with
      | none => rfl
      | some u =>
        rw [t.kA (by rw [q]; exact fun z => nomatch z)] at e
        cases e
    · rw [nT q hq] at e
      cases e)
  have env : Env0 P w K mg (hidT s₁.heap H) callerA [] s₁ H := by
    obtain ⟨mc, l1, l2⟩ := hlim
    exact ⟨rfl, ⟨kin, nsd hns, ⟨mb, nsd hb, hbb⟩, ⟨mc, nsd l1, l2⟩⟩, fun b o e => of_hidT e, Nat.le_of_eq (hidT_size _ _), trivial, fun b z => (by cases z), t.hok, .of_eq hg⟩
  have tabs : ∀ p ∈ cs, TabB (hidT s₁.heap H) mg p.1 p.2 := fun p hp => by
    have tp := hT p hp
    refine ⟨?_, ?_, fun z => ?_⟩
    · obtain ⟨o, us, f1, f2, f3, f4, f5, f6, f7, e1, r1, r2, r3, r⟩ := C p hp
      refine ⟨o, us, f1, f2, f3, f4, f5, f6, f7, hid e1 ⟨fun xs m z => ?_, fun z => ?_⟩, r1, r2, r3, r⟩
      · rw [r2] at z; cases z
      · rw [r2] at z; cases z; simp at r3
    · obtain ⟨bm, ob, b1, b2, b3, b4, b5, b6⟩ := hbm
      refine ⟨bm, ob, b1, b2, fun q => ?_, fun q => ?_, hid b3 ⟨fun xs m z => ?_, fun z => ?_⟩, b4, b5, b6⟩
      · obtain ⟨o, es, ep, e, d, _⟩ := hns
        rw [q, e] at b3
        cases b3
        rw [d] at b6
        cases b6
      · rw [q, tp] at b3
        cases b3
        cases b6
      · rw [b6] at z; cases z
      · rw [b6] at z; cases z
    · obtain ⟨o, es, ep, e, d, _⟩ := hns
      rw [z, tp] at e
      cases e
      cases d
  refine codeAny_mono (F _ s₁ H a ns hl kin (nsd hns) tabs env t.tb hS) fun r s' h => ?_
  match r, h with
  | .error e, h => exact (show False from h).elim
  | .ok .next, h => exact (show False from h).elim
  | .ok .brk, h => exact (show False from h).elim
  | .ok .cont, h => exact (show False from h).elim
  | .ok (.ret u), h =>
    obtain ⟨v, H', h1, h2, un, hok', rv, hv⟩ := h
    have hv : v = .bl true := hv
    subst hv
    cases rv
    have grow : ∀ p ∈ cs, ∃ more : Array Value, s'.heap.get? p.2 = some { cls := .none, data := .fields more } := fun p hp => by
      obtain ⟨more, z⟩ := un.tbls p.2 #[] (t.tb p hp)
      exact ⟨_, hok' p.2 _ z⟩
    have stay : ∀ b o, (∀ p ∈ cs, p.2 ≠ b) → s₁.heap.get? b = some o → s'.heap.get? b = some o := fun b o nb e => by
      rcases t.fz b with q | ⟨p, hp, q⟩ | ⟨ob, xs, q⟩
      · exact un.keep b o e q (fun z => by cases z) (fun z => by cases z)
      · exact absurd q (nb p hp)
      · obtain ⟨g1, _⟩ := t.hok b _ q
        obtain ⟨g2, _⟩ := hok' b _ (un.frzs b ob _ q)
        rw [e] at g1
        cases g1
        exact g2
    refine ⟨rfl, ⟨fun b o e => ?_, fun b o e => ?_⟩, h1, h2⟩
    · by_cases q : ∃ p ∈ cs, p.2 = b
      · obtain ⟨p, hp, rfl⟩ := q
        obtain ⟨more, hm⟩ := grow p hp
        rw [hT p hp] at e
        cases e
        exact .inr (.inl ⟨((C p hp).tab (hT p hp)).isCodeTable, rfl, #[], more, rfl, by rw [Array.empty_append]; exact hm⟩)
      · exact .inl (stay b o (fun p hp z => q ⟨p, hp, z⟩) e)
    · by_cases q : ∃ p ∈ cs, p.2 = b
      · obtain ⟨p, hp, rfl⟩ := q
        obtain ⟨more, hm⟩ := grow p hp
        exact ⟨_, hm⟩
      · exact ⟨o, stay b o (fun p hp z => q ⟨p, hp, z⟩) e⟩
theorem top_callT {n : Nat} (KX : K.In s₁.heap) (hns : s₁.heap.Ns mainGlobals mg) (hb : s₁.heap.Ns builtinsNs mb) (hbb : ∀ x : Str, x ≠ "__name__" → mb x = bootBuiltins x) (hlim : s₁.heap.NoLimit) (hg : s₁.gens = #[])
    (hT : ∀ p ∈ cs, s₁.heap.get? p.2 = some { cls := .none, data := .fields #[] }) (nT : ∀ p ∈ cs, K.lookup p.2 = none) (C : ∀ p ∈ cs, PySem.W.CodeHd s₁.heap p.1 p.2)
    (hbm : ∃ (bm : Addr) (ob : Obj), mg "__builtins__" = some (.ref bm) ∧ bm ≠ builtinsNs ∧ s₁.heap.get? bm = some ob ∧ ob.cls = .type "module" ∧ ob.dict = some builtinsNs ∧ ob.data = .plain)
    (ha : s₁.heap.get? a = some { cls := .type "list", data := .seq vs.toArray }) (hi : IntsAre vs ns) (hl : ns.length ≤ n) (hn : n ≤ sizeLine) (F : TopT P w K mg fa n cs) :
    codeAny (model P w) callerA (.call (.ref fa) ⟨[.ref a], []⟩) (fun r s' => r = .ok (.ret (.bool true)) ∧ OldK s₁.heap s'.heap ∧ s'.os = s₁.os ∧ AllBare s'.gens) s₁ := by
  have rv := vals_ints hi
  have sz : vs.length ≤ sizeLine := by rw [hi.length]; omega
  have at' : ∀ p ∈ cs, p.2 ≠ a := fun p hp z => by
    have e := hT p hp
    rw [z, ha] at e
    cases e
  -- the tables alone, and with the script
  generalize hB : (fun b : Addr => if b ∈ cs.map (·.2) then some (HO.tbl #[]) else none) = HB
  have inB : ∀ {b : Addr}, (∃ p ∈ cs, p.2 = b) → HB b = some (.tbl #[]) := fun {b} ⟨p, hp, e⟩ => by rw [← hB]; exact if_pos (List.mem_map.mpr ⟨p, hp, e⟩)
  have outB : ∀ {b : Addr}, (¬ ∃ p ∈ cs, p.2 = b) → HB b = none := fun {b} q => by rw [← hB]; exact if_neg fun z => q (let ⟨p, hp, e⟩ := List.mem_map.mp z; ⟨p, hp, e⟩)
  have aB : HB a = none := outB fun ⟨p, hp, e⟩ => at' p hp e
  have okB : HOk P w HB s₁.heap := fun b u z => by
    by_cases q : ∃ p ∈ cs, p.2 = b
    · rw [inB q] at z
      cases z
      obtain ⟨p, hp, rfl⟩ := q
      exact hT p hp
    · rw [outB q] at z
      cases z
  cases hk : K.lookup a with
  | some o =>
    have e := KX a o hk
    rw [ha] at e
    cases e
    refine run_topT (H := HB) KX hns hb hbb hlim hg hT nT C hbm ha hl F ⟨okB, fun b => ?_, fun z => absurd aB z, fun p hp => inB ⟨p, hp, rfl⟩, fun b => ?_⟩ (.inr ⟨_, vs.toArray, _, hk, rfl, rfl, rfl, by rw [List.size_toArray]; exact sz, by simpa using rv⟩)
    · by_cases q : ∃ p ∈ cs, p.2 = b
      · exact .inr (.inr q)
      · exact .inl (outB q)
    · by_cases q : ∃ p ∈ cs, p.2 = b
      · exact .inr (.inl q)
      · exact .inl (outB q)
  | none =>
    have ua : ∀ {o : HO}, upd HB a o a = some o := upd_same
    have off : ∀ {b : Addr} {o : HO}, b ≠ a → upd HB a o b = HB b := fun n => upd_ne n
    refine run_topT (H := upd HB a (.frz { cls := .type "list", data := .seq vs.toArray } (.lst (ns.map V.int)))) KX hns hb hbb hlim hg hT nT C hbm ha hl F ⟨fun b u z => ?_, fun b => ?_, fun _ => hk, fun p hp => by rw [off (at' p hp)]; exact inB ⟨p, hp, rfl⟩, fun b => ?_⟩ (.inl (.inr ⟨_, upd_same⟩))
    · by_cases q : b = a
      · subst q
        rw [ua] at z
        cases z
        exact ⟨ha, by rw [List.length_map]; omega, vs, _, rv, ha⟩
      · rw [off q] at z
        by_cases q2 : ∃ p ∈ cs, p.2 = b
        · rw [inB q2] at z
          cases z
          obtain ⟨p, hp, rfl⟩ := q2
          exact hT p hp
        · rw [outB q2] at z
          cases z
    · by_cases q : b = a
      · exact .inr (.inl q)
      · by_cases q2 : ∃ p ∈ cs, p.2 = b
        · exact .inr (.inr q2)
        · exact .inl (by rw [off q]; exact outB q2)
    · by_cases q : b = a
      · subst q
        exact .inr (.inr ⟨_, _, upd_same⟩)
      · by_cases q2 : ∃ p ∈ cs, p.2 = b
        · exact .inr (.inl q2)
        · exact .inl (by rw [off q]; exact outB q2)
end
/-- what the head must give -/
def LawT (l : PySem.W.OpenLaw) (w : World) (K : PySem.W.Frag) (n : Nat) (mg : Str → Option Value) (fa : Addr) (h : Heap) : Prop :=
  ∃ cs : List (Addr × Addr), (∀ p ∈ cs, h.get? p.2 = some { cls := .none, data := .fields #[] }) ∧ (∀ p ∈ cs, K.lookup p.2 = none) ∧ (∀ p ∈ cs, PySem.W.CodeHd h p.1 p.2) ∧ TopT l.prog w K mg fa n cs
theorem walk_topT {l : PySem.W.OpenLaw} {n : Nat} {q : Program} {loose : List Str} {XP : (Str → Option Value) → Heap → Prop} {YP : World → Heap → Prop} {d : DefRec} {K : Params → PySem.W.Frag}
    (hn : l.most = some n) (hn2 : n ≤ sizeLine) (hdf : d.params.defaults = []) (hY : ∀ (w : World) (h : Heap), YP w h → (K w.params).In h)
    (F : ∀ (w : World) (mg : Str → Option Value) (fa : Addr) (h : Heap), YP w h → (K w.params).In h → h.Ns mainGlobals mg → mg d.name = some (.ref fa) → LawT l w (K w.params) n mg fa h) :
    PySem.W.WalkO q loose XP YP l.row.toRowW d [] (fun f vs => PySem.call f vs) := by
  refine Att.attach_call hn hdf fun w s₀ s₁ mg mb fa o pm cd doc a vs ns G Y ho hd hcd hmg hobj hints hlen hg => ?_
  have KX := hY w _ Y
  obtain ⟨cs, hT, nT, C, hF⟩ := F w mg fa _ Y KX G.T.g hmg
  exact top_callT KX G.T.g G.T.b G.T.builtins G.T.nolimit hg hT nT C G.T.bmain hobj hints hlen hn2 hF
end Tp
/-! list(zip(a, b, c)) of three lists, the first of which is none of the longer ones. -/
namespace Lz
open PySem PySem.Spec PyProof.Rows L2
/-! ### many new objects at once -/
def putM : Hp → List (Addr × HO) → Hp
  | H, [] => H
  | H, p :: r => putM (upd H p.1 p.2) r
theorem putM_off {b : Addr} : ∀ {l : List (Addr × HO)} {H : Hp}, (∀ p ∈ l, p.1 ≠ b) → putM H l b = H b
  | [], _, _ => rfl
  | p :: r, H, h => by
    rw [putM, putM_off fun q hq => h q (List.mem_cons_of_mem _ hq), upd_ne (h p List.mem_cons_self).symm]
theorem putM_at : ∀ {l : List (Addr × HO)} {H : Hp}, (l.map (·.1)).Nodup → ∀ p ∈ l, putM H l p.1 = some p.2
  | q :: r, H, hn, p, hp => by
    rw [List.map_cons, List.nodup_cons] at hn
    rcases List.mem_cons.mp hp with rfl | hp
    · rw [putM, putM_off fun z hz e => hn.1 (by rw [← e]; exact List.mem_map_of_mem hz), upd_same]
    · exact putM_at hn.2 p hp
theorem laidM {X : Cx} {pins : List (Addr × Obj)} {σ : L2.St} {H : Hp} {s : Shared} {h' : Heap} {tk : Nat} {l : List (Addr × HO)} (I : Inv X pins σ H s) (k : ∀ b o, s.heap.get? b = some o → h'.get? b = some o) (nd : (l.map (·.1)).Nodup) (hp : ∀ p ∈ l, s.heap.objs.size ≤ p.1)
    (new : ∀ p ∈ l, ObjOk X.prog X.w (putM H l) h' p.1 p.2) : Inv X pins σ (putM H l) { s with heap := h', toks := tk } ∧ Same H (putM H l) := by
  have free : ∀ p ∈ l, H p.1 = none := fun p h => I.hok.fresh (hp p h)
  have old : ∀ b u, H b = some u → putM H l b = some u := fun b u e => by
    rw [putM_off fun p h z => by rw [← z, free p h] at e; cases e]
    exact e
  have low : ∀ b o, s.heap.get? b = some o → putM H l b = H b := fun b o e => putM_off fun p h z => absurd (Heap.lt_size e) (Nat.not_lt.mpr (by rw [← z]; exact hp p h))
  refine ⟨I.call' (ch := []) rfl ⟨fun b o q _ _ _ => k b o q, fun b o q _ _ _ => ⟨_, k b o q⟩, fun b o q n _ => (low b o q).trans n, fun b o q _ => ⟨_, k b o q⟩, fun b _ q => old b _ q, fun b _ _ q => old b _ q, fun b ps q => ⟨#[], by rw [old b _ q]; simp⟩⟩ (fun b u q => ?_) I.bare (fun b z => nomatch z), old⟩
  by_cases hb : ∃ p ∈ l, p.1 = b
  · obtain ⟨p, hl, rfl⟩ := hb
    rw [putM_at nd p hl] at q
    cases q
    exact new p hl
  · have hb' : putM H l b = H b := putM_off fun p h z => hb ⟨p, h, z⟩
    rw [hb'] at q
    exact (I.hok b u q).stay (fun d v _ y => k d v y) (fun d y => old d _ y) fun d xs y => old d _ y
/-! ### the zip's turns -/
theorem zip_nolen : typeLookup (.type "zip") "__len__" = pure none := by rw [typeLookup_type, builtinLookup_eq_fast]; kernel_rfl
theorem zip_nohint : typeLookup (.type "zip") "__length_hint__" = pure none := by rw [typeLookup_type, builtinLookup_eq_fast]; kernel_rfl
section
variable {prog : Program} {w : World} {A : Around} {E : Value → Shared → Prop} {s : Shared} {z TI TO i1 i2 i3 a b c S : Addr} {xs ys zs : Array Value}
/-- the three iterators at place i -/
structure Its (TI i1 i2 i3 a b c : Addr) (xs ys zs : Array Value) (i : Nat) (h : Heap) : Prop where
  t : IsTupOf3 h TI (.ref i1) (.ref i2) (.ref i3)
  u1 : h.IsListIter i1 a i ∧ h.IsList a xs
  u2 : h.IsListIter i2 b i ∧ h.IsList b ys
  u3 : h.IsListIter i3 c i ∧ h.IsList c zs
abbrev Sep (z TI TO i1 i2 i3 a b c : Addr) : Prop := ZipSep3 z TI TO i1 i2 i3 [i1, a] [i2, b] [i3, c]
/-- all but what a turn writes stays -/
def Rest (z TO i1 i2 i3 : Addr) (h h' : Heap) : Prop := ∀ q o, q ≠ z → q ≠ TO → q ≠ i1 → q ≠ i2 → q ≠ i3 → h.get? q = some o → h'.get? q = some o
theorem draw (hh : A.handled = none) {it l : Addr} (n : l ≠ it) (vs : Array Value) : Draws prog w A it [it, l] vs.size (fun i v => vs[i]? = some v) (fun i h => h.IsListIter it l i ∧ h.IsList l vs) := .list hh it l n vs
theorem step_held (hh : A.handled = none) (D : Sep z TI TO i1 i2 i3 a b c) (n1 : a ≠ i1) (n2 : b ≠ i2) (n3 : c ≠ i3) {T : Addr} {f : Bool} {oT : Obj} {i : Nat} {Q : Value → Shared → Prop} (hz : IsZipHeld s.heap z TI TO T f) (hT : s.heap.get? T = some oT) (st : Its TI i1 i2 i3 a b c xs ys zs i s.heap)
    (l1 : i < xs.size) (l2 : i < ys.size) (l3 : i < zs.size)
    (hQ : ∀ x y u h' tk, xs[i]? = some x → ys[i]? = some y → zs[i]? = some u → IsZipHeld h' z TI TO T true → Its TI i1 i2 i3 a b c xs ys zs (i + 1) h' → IsTupOf3 h' s.heap.objs.size x y u → Rest z TO i1 i2 i3 s.heap h' → Q (.ref s.heap.objs.size) { s with heap := h', toks := tk }) :
    wpAny (model prog w) A (Builtin.«zip.__next__» ⟨[.ref z], []⟩) (fun fin s' => ∃ v, fin = .done (.ret v) ∧ Q v s') E s := by
  have D1 := draw (prog := prog) (w := w) hh n1 xs
  have D2 := draw (prog := prog) (w := w) hh n2 ys
  have D3 := draw (prog := prog) (w := w) hh n3 zs
  obtain ⟨g, gs, dr, tk0, os⟩ := s
  show wpAny _ _ (field (.ref z) 2 >>= _) _ _ _
  refine wpAny_bind (wpAny_field hz rfl (x := .bool false) rfl (show wpAny _ _ (field (.ref z) 3 >>= _) _ _ _ from wpAny_bind (wpAny_field hz rfl (x := .ref TI) rfl (wpAny_bind (wpAny_seqItems st.t rfl ?_)))))
  show wpAny _ _ (Builtin.SmallTypes.ownedTupleIsFree (.ref z) >>= _) _ _ _
  refine wpAny_bind (wpAny_tupleHeld_zip hz hT fun g1 z1 e1 => ?_)
  rw [if_neg Bool.false_ne_true]
  refine wpAny_bind ?_
  rw [← Array.forIn_toList]
  simp only [List.forIn_cons, List.forIn_nil]
  refine wpAny_bind (wpAny_bind (wpAny_holding (show wpAny _ _ (Builtin.SmallTypes.nextOf (.ref i1) >>= _) _ _ _ from wpAny_bind (D1.item i _ _ _ l1 (D1.over st.u1 e1 D.zf1) fun x g2 t2 hx st1 e2 => wpAny_pure (wpAny_pure ?_)))))
  refine wpAny_bind (wpAny_bind (wpAny_holding (show wpAny _ _ (Builtin.SmallTypes.nextOf (.ref i2) >>= _) _ _ _ from wpAny_bind (D2.item i _ _ _ l2 (D2.over (D2.over st.u2 e1 D.zf2) e2 D.sep1_2) fun y g3 t3 hy st2 e3 => wpAny_pure (wpAny_pure ?_)))))
  refine wpAny_bind (wpAny_bind (wpAny_holding (show wpAny _ _ (Builtin.SmallTypes.nextOf (.ref i3) >>= _) _ _ _ from wpAny_bind (D3.item i _ _ _ l3 (D3.over (D3.over (D3.over st.u3 e1 D.zf3) e2 D.sep1_3) e3 D.sep2_3) fun u g4 t4 hu st3 e4 => wpAny_pure (wpAny_pure (wpAny_pure ?_))))))
  refine wpAny_bind (show wpAny _ _ (newTuple [x, y, u]) _ _ _ from wpAny_newTuple (wpAny_pure ⟨_, rfl, ?_⟩))
  have sz : g4.objs.size = g.objs.size := by rw [e4.1, e3.1, e2.1, e1.1]
  have all : ∀ q o, q ≠ z → q ≠ i1 → q ≠ i2 → q ≠ i3 → g.get? q = some o → g4.get? q = some o := fun q o d1 d2 d3 d4 e => e4.extBut _ _ d4 (e3.extBut _ _ d3 (e2.extBut _ _ d2 (e1.extBut _ _ d1 e)))
  have zz : IsZipHeld g4 z TI TO T true := e4.extBut _ _ D.zi3 (e3.extBut _ _ D.zi2 (e2.extBut _ _ D.zi1 z1))
  have s1 := D1.over (D1.over st1 e3 D.sep2_1) e4 D.sep3_1
  have s2 := D2.over st2 e4 D.sep3_2
  have up : ∀ {q : Addr} {o : Obj}, g4.get? q = some o → (g4.push { cls := .type "tuple", data := .seq #[x, y, u] }).get? q = some o := fun e => Heap.get?_push_of_some _ e
  have tt : IsTupOf3 (g4.push { cls := .type "tuple", data := .seq #[x, y, u] }) g4.objs.size x y u := Heap.get?_push_size _ rfl
  show Q (.ref g4.objs.size) _
  rw [sz] at tt ⊢
  exact hQ x y u _ t4 hx hy hu (up zz) ⟨up (all _ _ D.TIz D.TIi1 D.TIi2 D.TIi3 st.t), D1.frame _ _ _ s1 fun _ _ _ e => up e, D2.frame _ _ _ s2 fun _ _ _ e => up e, D3.frame _ _ _ st3 fun _ _ _ e => up e⟩ tt fun q o d1 _ d2 d3 d4 e => up (all q o d1 d2 d3 d4 e)
theorem stop_held (hh : A.handled = none) (D : Sep z TI TO i1 i2 i3 a b c) (n1 : a ≠ i1) {T : Addr} {f : Bool} {oT : Obj} {Q : Fin → Shared → Prop} (hz : IsZipHeld s.heap z TI TO T f) (hT : s.heap.get? T = some oT) (st : Its TI i1 i2 i3 a b c xs ys zs xs.size s.heap)
    (hE : ∀ h' e, Rest z TO i1 i2 i3 s.heap h' → (∃ o, h'.get? e = some o ∧ o.cls = .type "StopIteration") → E (.ref e) { s with heap := h' }) :
    wpAny (model prog w) A (Builtin.«zip.__next__» ⟨[.ref z], []⟩) Q E s := by
  have D1 := draw (prog := prog) (w := w) hh n1 xs
  obtain ⟨g, gs, dr, tk0, os⟩ := s
  show wpAny _ _ (field (.ref z) 2 >>= _) _ _ _
  refine wpAny_bind (wpAny_field hz rfl (x := .bool false) rfl (show wpAny _ _ (field (.ref z) 3 >>= _) _ _ _ from wpAny_bind (wpAny_field hz rfl (x := .ref TI) rfl (wpAny_bind (wpAny_seqItems st.t rfl ?_)))))
  show wpAny _ _ (Builtin.SmallTypes.ownedTupleIsFree (.ref z) >>= _) _ _ _
  refine wpAny_bind (wpAny_tupleHeld_zip hz hT fun g1 z1 e1 => ?_)
  rw [if_neg Bool.false_ne_true]
  refine wpAny_bind ?_
  rw [← Array.forIn_toList]
  simp only [List.forIn_cons, List.forIn_nil]
  exact wpAny_bind (wpAny_bind (wpAny_holding (show wpAny _ _ (Builtin.SmallTypes.nextOf (.ref i1) >>= _) _ _ _ from wpAny_bind (D1.done _ _ _ (D1.over st.u1 e1 D.zf1) fun g2 e e2 he => hE g2 e (fun q o d1 _ d2 _ _ h => e2 _ _ d2 (e1.extBut _ _ d1 h)) he))))
/-- where the zip stands at turn i; its last tuple is none of what the list's loop writes -/
def ZAt (S z TI TO : Addr) (i : Nat) (h : Heap) : Prop := (i = 0 ∧ IsZip h z TI TO .none ∧ ∃ a1 a2 a3, IsTupOf3 h TO a1 a2 a3) ∨ ∃ (T : Addr) (f : Bool) (oT : Obj), 0 < i ∧ IsZipHeld h z TI TO T f ∧ h.get? T = some oT ∧ T ≠ S ∧ T ≠ z ∧ T ≠ TO ∧ T ≠ i1 ∧ T ≠ i2 ∧ T ≠ i3
variable {ts : List Addr}
theorem ZAt.keep {i : Nat} {h h' : Heap} (nz : z ≠ S) (nO : TO ≠ S) (st : ZAt (i1 := i1) (i2 := i2) (i3 := i3) S z TI TO i h) (k : ∀ q o, q ≠ S → h.get? q = some o → h'.get? q = some o) : ZAt (i1 := i1) (i2 := i2) (i3 := i3) S z TI TO i h' := by
  rcases st with ⟨e, h1, a1, a2, a3, h2⟩ | ⟨T, f, oT, p, h1, h2, n⟩
  · exact .inl ⟨e, k _ _ nz h1, a1, a2, a3, k _ _ nO h2⟩
  · exact .inr ⟨T, f, oT, p, k _ _ nz h1, k _ _ n.1 h2, n⟩
theorem Its.keep {i : Nat} {h h' : Heap} (st : Its TI i1 i2 i3 a b c xs ys zs i h) (n : ∀ q ∈ [TI, i1, i2, i3, a, b, c], q ≠ S) (k : ∀ q o, q ≠ S → h.get? q = some o → h'.get? q = some o) : Its TI i1 i2 i3 a b c xs ys zs i h' := by
  have kk : ∀ q ∈ [TI, i1, i2, i3, a, b, c], ∀ o, h.get? q = some o → h'.get? q = some o := fun q hq o e => k q o (n q hq) e
  exact ⟨kk TI (by simp) _ st.t, ⟨st.u1.1.at fun o e => kk i1 (by simp) o e, st.u1.2.at fun o e => kk a (by simp) o e⟩, ⟨st.u2.1.at fun o e => kk i2 (by simp) o e, st.u2.2.at fun o e => kk b (by simp) o e⟩, st.u3.1.at fun o e => kk i3 (by simp) o e, st.u3.2.at fun o e => kk c (by simp) o e⟩
/-- one turn of the zip, the first or a later one -/
theorem zip_turn (hh : A.handled = none) (D : Sep z TI TO i1 i2 i3 a b c) (n1 : a ≠ i1) (n2 : b ≠ i2) (n3 : c ≠ i3) (hS : S < s.heap.objs.size) {i : Nat} {Q : Option Value → Shared → Prop} (hz : ZAt (i1 := i1) (i2 := i2) (i3 := i3) S z TI TO i s.heap) (st : Its TI i1 i2 i3 a b c xs ys zs i s.heap)
    (l1 : i < xs.size) (l2 : i < ys.size) (l3 : i < zs.size)
    (hQ : ∀ x y u h' tk, xs[i]? = some x → ys[i]? = some y → zs[i]? = some u → ZAt (i1 := i1) (i2 := i2) (i3 := i3) S z TI TO (i + 1) h' → Its TI i1 i2 i3 a b c xs ys zs (i + 1) h' → IsTupOf3 h' s.heap.objs.size x y u → Rest z TO i1 i2 i3 s.heap h' → Q (some (.ref s.heap.objs.size)) { s with heap := h', toks := tk }) :
    wpAny (model prog w) A (pyNext (.ref z)) Q E s := by
  have lv : ∀ {q : Addr} {o : Obj}, s.heap.get? q = some o → s.heap.objs.size ≠ q := fun e => Nat.ne_of_gt (Heap.lt_size e)
  have m1 : s.heap.objs.size ≠ i1 := by obtain ⟨o, e, _⟩ := st.u1.1; exact lv e
  have m2 : s.heap.objs.size ≠ i2 := by obtain ⟨o, e, _⟩ := st.u2.1; exact lv e
  have m3 : s.heap.objs.size ≠ i3 := by obtain ⟨o, e, _⟩ := st.u3.1; exact lv e
  rcases hz with ⟨rfl, h1, a1, a2, a3, h2⟩ | ⟨T, f, oT, p, h1, h2, t0, t1, t2, t3⟩
  · refine wpAny_pyNext_zipD3_item D (draw (A := A.in1) hh n1 xs) (draw (A := A.in1) hh n2 ys) (draw (A := A.in1) hh n3 zs) h1 st.t h2 st.u1 st.u2 st.u3 l1 l2 l3 fun x y u h' tk e1 e2 e3 g1 g2 g3 g4 g5 g6 g7 g8 => ?_
    exact hQ x y u h' tk e1 e2 e3 (.inr ⟨_, _, _, Nat.succ_pos _, g1, g6, Nat.ne_of_gt hS, lv h1, lv h2, m1, m2, m3⟩) ⟨g8 _ _ D.TIz D.TITO D.TIi1 D.TIi2 D.TIi3 st.t, g3, g4, g5⟩ g6 g8
  · have ty : s.TypeIs (.ref z) "zip" := ⟨_, h1, rfl⟩
    unfold pyNext
    refine wpAny_bind (wpAny_attempt (wpAny_callSpecial?_slot (name := Str.ofString "__next__") ty F.slot_zip_next (wpAny_call_entry F.slot_zip_next ty F.entry_zip_next (step_held (A := A.in1) hh D n1 n2 n3 h1 h2 st l1 l2 l3 fun x y u h' tk e1 e2 e3 g1 g2 g3 g4 => wpAny_pure ?_) (F.args_zip_next_1 _))))
    exact hQ x y u h' tk e1 e2 e3 (.inr ⟨T, true, oT, Nat.succ_pos _, g1, g4 _ _ t1 t2 t3.1 t3.2.1 t3.2.2 h2, t0, t1, t2, t3⟩) g2 g3 g4
theorem zip_stop (hh : A.handled = none) (D : Sep z TI TO i1 i2 i3 a b c) (n1 : a ≠ i1) {Q : Option Value → Shared → Prop} (h0 : 0 < xs.size) (hz : ZAt (i1 := i1) (i2 := i2) (i3 := i3) S z TI TO xs.size s.heap) (st : Its TI i1 i2 i3 a b c xs ys zs xs.size s.heap)
    (hQ : ∀ h', Rest z TO i1 i2 i3 s.heap h' → Q none { s with heap := h' }) : wpAny (model prog w) A (pyNext (.ref z)) Q E s := by
  rcases hz with ⟨e, _⟩ | ⟨T, f, oT, p, h1, h2, _⟩
  · omega
  · have ty : s.TypeIs (.ref z) "zip" := ⟨_, h1, rfl⟩
    unfold pyNext
    refine wpAny_bind (wpAny_attempt (wpAny_callSpecial?_slot (name := Str.ofString "__next__") ty F.slot_zip_next (wpAny_call_entry F.slot_zip_next ty F.entry_zip_next (stop_held (A := A.in1) hh D n1 h1 h2 st fun h' e hk ⟨o, ho, hc⟩ => ?_) (F.args_zip_next_1 _))))
    exact wpAny_bind (wpAny_isInstance (T := "StopIteration") (b := true) ⟨o, ho, hc⟩ isSubtype_stop (wpAny_pure (hQ _ hk)))
/-! ### the list -/
/-- the tuples made so far -/
def Tups (xs ys zs : Array Value) (h : Heap) (n : Nat) (ts : List Addr) : Prop := ts.length = n ∧ ∀ (j : Nat) (t : Addr), ts[j]? = some t → ∃ x y u, xs[j]? = some x ∧ ys[j]? = some y ∧ zs[j]? = some u ∧ IsTupOf3 h t x y u
/-- the tuples lie above all that was, rising, and are none of what is written -/
structure Above (N S z TO i1 i2 i3 : Addr) (sz : Nat) (ts : List Addr) : Prop where
  lo : ∀ t ∈ ts, N ≤ t ∧ t < sz ∧ t ≠ S ∧ t ≠ z ∧ t ≠ TO ∧ t ≠ i1 ∧ t ≠ i2 ∧ t ≠ i3
  nd : ts.Nodup
theorem ext_zip {N : Addr} {R : Result → Shared → Prop} {res : Value} (hh : A.handled = none) (D : Sep z TI TO i1 i2 i3 a b c) (n1 : a ≠ i1) (n2 : b ≠ i2) (n3 : c ≠ i3) (h0 : 0 < xs.size) (l2 : xs.size ≤ ys.size) (l3 : xs.size ≤ zs.size) (hn : xs.size ≤ sizeLine)
    (nS : ∀ q ∈ [TI, i1, i2, i3, a, b, c], q ≠ S) (nz : z ≠ S) (nO : TO ≠ S) : ∀ (k i : Nat) (s : Shared) (cp : Nat) (ts : List Addr), xs.size - i = k → i ≤ xs.size → N ≤ s.heap.objs.size → TO < s.heap.objs.size → ZAt (i1 := i1) (i2 := i2) (i3 := i3) S z TI TO i s.heap → Its TI i1 i2 i3 a b c xs ys zs i s.heap →
      s.heap.get? S = some { cls := .type "list", dict := none, data := .seq (ts.map Value.ref).toArray cp, slots := #[] } → Tups xs ys zs s.heap i ts → Above N S z TO i1 i2 i3 s.heap.objs.size ts →
      (∀ h' tk cp' ts', h'.get? S = some { cls := .type "list", dict := none, data := .seq (ts'.map Value.ref).toArray cp', slots := #[] } → Tups xs ys zs h' xs.size ts' → (∀ t ∈ ts', N ≤ t ∧ t ≠ S) → ts'.Nodup → (∀ q o, q ≠ S → q ≠ z → q ≠ TO → q ≠ i1 → q ≠ i2 → q ≠ i3 → s.heap.get? q = some o → h'.get? q = some o) → R (.ok (.ret res)) { s with heap := h', toks := tk }) →
      codeAny (model prog w) A (.builtin "list.extend.loop" ⟨[.ref S, .ref z, res], []⟩) R s := by
  intro k
  induction k with
  | zero =>
    intro i s cp ts hk hi hN hO hz st hS ht ab hR
    obtain rfl : i = xs.size := by omega
    refine codeAny_builtin F.entry_extend_loop ?_
    rw [Around.under_plainId F.plain_extend_loop _]
    show wpAny _ A.in1 (pyNext (.ref z) >>= _) _ _ s
    refine wpAny_bind (zip_stop (A := A.in1) hh D n1 h0 hz st fun h' rest => wpAny_pure ?_)
    have kS := rest S _ nz.symm nO.symm (nS i1 (by simp)).symm (nS i2 (by simp)).symm (nS i3 (by simp)).symm hS
    refine hR h' s.toks cp ts kS ⟨ht.1, fun j t hj => ?_⟩ (fun t hm => ⟨(ab.lo t hm).1, (ab.lo t hm).2.2.1⟩) ab.nd fun q o _ d1 d2 d3 d4 d5 e => rest q o d1 d2 d3 d4 d5 e
    obtain ⟨x, y, u, e1, e2, e3, e4⟩ := ht.2 j t hj
    obtain ⟨_, _, _, d1, d2, d3, d4, d5⟩ := ab.lo t (List.mem_of_getElem? hj)
    exact ⟨x, y, u, e1, e2, e3, rest _ _ d1 d2 d3 d4 d5 e4⟩
  | succ k ih =>
    intro i s cp ts hk hi hN hO hz st hS ht ab hR
    have hlt : i < xs.size := by omega
    have sS := Heap.lt_size hS
    refine codeAny_builtin F.entry_extend_loop ?_
    rw [Around.under_plainId F.plain_extend_loop _]
    show wpAny _ A.in1 (pyNext (.ref z) >>= _) _ _ s
    refine wpAny_bind (zip_turn (A := A.in1) hh D n1 n2 n3 sS hz st hlt (by omega) (by omega) fun x y u h' tk hx hy hu hz' st' hT rest => ?_)
    have kS := rest S _ nz.symm nO.symm (nS i1 (by simp)).symm (nS i2 (by simp)).symm (nS i3 (by simp)).symm hS
    have up := Heap.get?_update_self (Obj.mapSeq (·.push (Value.ref s.heap.objs.size))) kS rfl
    have oth : ∀ q o, q ≠ S → h'.get? q = some o → (h'.update S (Obj.mapSeq (·.push (Value.ref s.heap.objs.size)))).get? q = some o := fun q o n e => (Heap.get?_update_other _ _ n.symm).trans e
    have szl : ((ts.map Value.ref).toArray).size = i := by simpa using ht.1
    have lv : ∀ {q : Addr} {o : Obj}, s.heap.get? q = some o → s.heap.objs.size ≠ q := fun e => Nat.ne_of_gt (Heap.lt_size e)
    have m1 : s.heap.objs.size ≠ i1 := by obtain ⟨o, e, _⟩ := st.u1.1; exact lv e
    have m2 : s.heap.objs.size ≠ i2 := by obtain ⟨o, e, _⟩ := st.u2.1; exact lv e
    have m3 : s.heap.objs.size ≠ i3 := by obtain ⟨o, e, _⟩ := st.u3.1; exact lv e
    have mz : s.heap.objs.size ≠ z := by
      rcases hz with ⟨_, h1, _⟩ | ⟨_, _, _, _, h1, _⟩
      · exact lv h1
      · exact lv h1
    have big : s.heap.objs.size < h'.objs.size := Heap.lt_size hT
    refine wpAny_bind (show wpAny _ A.in1 (updateSeq S (·.push (Value.ref s.heap.objs.size))) _ _ _ from wpAny_updateSeq kS rfl (wpAny_pure ⟨plainId_quiet F.plain_extend_loop _, ?_⟩) (by rw [szl]; omega) (by show _ ≤ sizeLine + 1; rw [Array.size_push, szl]; omega))
    have usz : (h'.update S (Obj.mapSeq (·.push (Value.ref s.heap.objs.size)))).objs.size = h'.objs.size := Heap.size_update ..
    have ec : ((ts.map Value.ref).toArray).push (Value.ref s.heap.objs.size) = ((ts ++ [s.heap.objs.size]).map Value.ref).toArray := by simp
    obtain ⟨cq, upq⟩ : ∃ cq, (h'.update S (Obj.mapSeq (·.push (Value.ref s.heap.objs.size)))).get? S = some { cls := .type "list", dict := none, data := .seq ((ts ++ [s.heap.objs.size]).map Value.ref).toArray cq, slots := #[] } := ⟨_, by rw [← ec]; exact up⟩
    refine ih (i + 1) _ cq (ts ++ [s.heap.objs.size]) (by omega) hlt (Nat.le_trans hN (Nat.le_trans (Nat.le_of_lt big) (Nat.le_of_eq usz.symm))) (Nat.lt_of_lt_of_le (Nat.lt_trans hO big) (Nat.le_of_eq usz.symm)) (hz'.keep nz nO oth) (st'.keep nS oth) upq ⟨by simp [ht.1], fun j t hj => ?_⟩ ⟨fun t hm => ?_, ?_⟩ fun h2 tk2 cp2 ts2 g1 g2 g3 g4 g5 => ?_
    · rcases Nat.lt_or_ge j ts.length with q | q
      · rw [List.getElem?_append_left q] at hj
        obtain ⟨x1, y1, u1, e1, e2, e3, e4⟩ := ht.2 j t hj
        obtain ⟨_, _, d0, d1, d2, d3, d4, d5⟩ := ab.lo t (List.mem_of_getElem? hj)
        exact ⟨x1, y1, u1, e1, e2, e3, oth _ _ d0 (rest _ _ d1 d2 d3 d4 d5 e4)⟩
      · rw [List.getElem?_append_right q] at hj
        have j0 : j - ts.length = 0 := by
          cases h : j - ts.length with
          | zero => rfl
          | succ m => rw [h] at hj; simp at hj
        rw [j0] at hj
        cases hj
        have ej : j = i := by have := ht.1; omega
        rw [ej]
        exact ⟨x, y, u, hx, hy, hu, oth _ _ (Nat.ne_of_gt sS) hT⟩
    · show N ≤ t ∧ t < _ ∧ _
      rw [usz]
      rcases List.mem_append.mp hm with q | q
      · obtain ⟨a1, a2, a3⟩ := ab.lo t q
        exact ⟨a1, Nat.lt_trans a2 big, a3⟩
      · rw [List.mem_singleton.mp q]
        exact ⟨hN, big, Nat.ne_of_gt sS, mz, Nat.ne_of_gt hO, m1, m2, m3⟩
    · rw [List.nodup_append]
      refine ⟨ab.nd, by simp, fun t ht' t2 ht2 => ?_⟩
      rw [List.mem_singleton.mp ht2]
      exact Nat.ne_of_lt (ab.lo t ht').2.1
    · exact hR h2 tk2 cp2 ts2 g1 g2 g3 g4 fun q o d0 d1 d2 d3 d4 d5 e => g5 q o d0 d1 d2 d3 d4 d5 (oth _ _ d0 (rest q o d1 d2 d3 d4 d5 e))
theorem list_zip {Q : Value → Shared → Prop} (hh : A.handled = none) (D : Sep z TI TO i1 i2 i3 a b c) (n1 : a ≠ i1) (n2 : b ≠ i2) (n3 : c ≠ i3) (h0 : 0 < xs.size) (l2 : xs.size ≤ ys.size) (l3 : xs.size ≤ zs.size) (hn : xs.size ≤ sizeLine)
    (hz : IsZip s.heap z TI TO .none) (hO : ∃ a1 a2 a3, IsTupOf3 s.heap TO a1 a2 a3) (st : Its TI i1 i2 i3 a b c xs ys zs 0 s.heap)
    (hQ : ∀ h' tk cp ts, h'.get? s.heap.objs.size = some { cls := .type "list", dict := none, data := .seq (ts.map Value.ref).toArray cp, slots := #[] } → Tups xs ys zs h' xs.size ts → (∀ t ∈ ts, s.heap.objs.size ≤ t ∧ t ≠ s.heap.objs.size) → ts.Nodup →
      (∀ q o, q ≠ z → q ≠ TO → q ≠ i1 → q ≠ i2 → q ≠ i3 → s.heap.get? q = some o → h'.get? q = some o) → Q (.ref s.heap.objs.size) { s with heap := h', toks := tk }) :
    wpAny (model prog w) A (call (.type "list") [.ref z]) Q E s := by
  have lt : ∀ {q : Addr} {o : Obj}, s.heap.get? q = some o → q ≠ s.heap.objs.size := fun e => Nat.ne_of_lt (Heap.lt_size e)
  obtain ⟨a1, a2, a3, hO⟩ := hO
  have nz := lt hz
  have nO := lt hO
  have nS : ∀ q ∈ [TI, i1, i2, i3, a, b, c], q ≠ s.heap.objs.size := fun q hq => by
    simp only [List.mem_cons, List.not_mem_nil, or_false] at hq
    rcases hq with rfl | rfl | rfl | rfl | rfl | rfl | rfl
    · exact lt st.t
    · obtain ⟨_, e, _⟩ := st.u1.1; exact lt e
    · obtain ⟨_, e, _⟩ := st.u2.1; exact lt e
    · obtain ⟨_, e, _⟩ := st.u3.1; exact lt e
    · obtain ⟨_, e, _⟩ := st.u1.2; exact lt e
    · obtain ⟨_, e, _⟩ := st.u2.2; exact lt e
    · obtain ⟨_, e, _⟩ := st.u3.2; exact lt e
  refine callType_codes (Q₁ := fun obj s1 => obj = .ref s.heap.objs.size ∧ s1 = { s with heap := s.heap.push { cls := .type "list", data := .seq #[] } }) F.called_list (F.typeCall_list_1 _) F.entry_list_init (code_list_new _ ⟨rfl, rfl⟩) fun obj s1 ⟨e1, e2⟩ => ?_
  subst e1 e2
  have hS : (s.heap.push { cls := .type "list", data := .seq #[] }).get? s.heap.objs.size = some { cls := .type "list", data := .seq #[] } := Heap.get?_push_size _ rfl
  refine ⟨⟨_, hS, rfl⟩, F.args_list_init_2 _ _, ?_⟩
  have p1 : ∀ q o, s.heap.get? q = some o → (s.heap.push { cls := .type "list", data := .seq #[] }).get? q = some o := fun q o e => Heap.get?_push_of_some _ e
  show wpAny _ _ (Builtin.List.listItems (.ref s.heap.objs.size) >>= _) _ _ _
  unfold Builtin.List.listItems
  refine wpAny_bind (wpAny_bind (wpAny_seqItems hS rfl (wpAny_pure ?_)))
  show wpAny _ _ (updateSeq s.heap.objs.size (fun _ => #[]) >>= fun _ => letGo (#[] : Array Value).toList.reverse >>= fun _ => Builtin.List.listExtendWith (.ref s.heap.objs.size) (.ref z) .none) _ _ _
  refine wpAny_bind (wpAny_updateSeq hS rfl (wpAny_bind (wpAny_letGo ?_)))
  have hS2 := Heap.get?_update_self (Obj.mapSeq (fun _ => (#[] : Array Value))) hS rfl
  have o2 : ∀ q o, q ≠ s.heap.objs.size → (s.heap.push { cls := .type "list", data := .seq #[] }).get? q = some o → ((s.heap.push { cls := .type "list", data := .seq #[] }).update s.heap.objs.size (Obj.mapSeq (fun _ => (#[] : Array Value)))).get? q = some o := fun q o n e => (Heap.get?_update_other _ _ n.symm).trans e
  have z2 : ((s.heap.push { cls := .type "list", data := .seq #[] }).update s.heap.objs.size (Obj.mapSeq (fun _ => (#[] : Array Value)))).objs.size = s.heap.objs.size + 1 := by rw [Heap.size_update, Heap.size_push]
  generalize (s.heap.push { cls := .type "list", data := .seq #[] }).update s.heap.objs.size (Obj.mapSeq (fun _ => (#[] : Array Value))) = g2 at hS2 o2 z2 ⊢
  have zz : IsZip g2 z TI TO .none := o2 _ _ nz (p1 _ _ hz)
  have tz : ∀ {t}, ({ s with heap := g2, toks := t } : Shared).TypeIs (.ref z) "zip" := ⟨_, zz, rfl⟩
  unfold Builtin.List.listExtendWith
  refine wpAny_bind (wpAny_typeOf (T := "zip") tz ?_)
  have h1 : Builtin.List.listSameRef (.ref s.heap.objs.size) (.ref z) = false := by simp [Builtin.List.listSameRef, nz.symm]
  have h2 : (Value.type "zip" == Value.type "list") = false := by decide
  have h3 : (Value.type "zip" == Value.type "tuple") = false := by decide
  simp only [h1, h2, h3, Bool.or_false, Bool.false_eq_true, if_false]
  refine wpAny_bind (wpAny_pyIter_zip zz (wpAny_bind (wpAny_holding ?_)))
  unfold Builtin.List.listLengthHint
  refine wpAny_bind (wpAny_specialOf tz zip_nolen (show wpAny _ _ (specialOf (Value.ref z) (Str.ofString "__length_hint__") >>= _) _ _ _ from wpAny_bind (wpAny_specialOf tz zip_nohint (wpAny_pure ?_))))
  show wpAny _ _ (rule "list.extend.makes-room" >>= fun _ => Builtin.List.listTouch (.ref s.heap.objs.size) >>= fun _ => again (.builtin "list.extend.loop" ⟨[.ref s.heap.objs.size, .ref z, .none], []⟩)) _ _ _
  refine wpAny_bind (wpAny_rule (wpAny_bind ?_))
  show wpAny _ _ (updateSeq s.heap.objs.size (·.push .none) >>= fun _ => updateSeq s.heap.objs.size (·.pop)) _ _ _
  refine wpAny_bind (wpAny_updateSeq hS2 rfl ?_)
  have hS3 := Heap.get?_update_self (Obj.mapSeq (·.push Value.none)) hS2 rfl
  refine wpAny_updateSeq (hz := by seq_fits) hS3 rfl ?_
  have hS4 := Heap.get?_update_self (Obj.mapSeq (·.pop)) hS3 rfl
  have o4 : ∀ q o, q ≠ s.heap.objs.size → g2.get? q = some o → ((g2.update s.heap.objs.size (Obj.mapSeq (·.push Value.none))).update s.heap.objs.size (Obj.mapSeq (·.pop))).get? q = some o := fun q o n e => (Heap.get?_update_other _ _ n.symm).trans ((Heap.get?_update_other _ _ n.symm).trans e)
  have z4 : ((g2.update s.heap.objs.size (Obj.mapSeq (·.push Value.none))).update s.heap.objs.size (Obj.mapSeq (·.pop))).objs.size = s.heap.objs.size + 1 := by rw [Heap.size_update, Heap.size_update, z2]
  have o5 : ∀ q o, q ≠ s.heap.objs.size → s.heap.get? q = some o → ((g2.update s.heap.objs.size (Obj.mapSeq (·.push Value.none))).update s.heap.objs.size (Obj.mapSeq (·.pop))).get? q = some o := fun q o n e => o4 q o n (o2 q o n (p1 q o e))
  refine wpAny_pure ⟨plainId_quiet F.plain_extend_loop _, ?_⟩
  refine ext_zip (N := s.heap.objs.size) (A := A.in1) hh D n1 n2 n3 h0 l2 l3 hn nS nz nO _ 0 _ _ [] rfl (Nat.zero_le _) (Nat.le_trans (Nat.le_succ _) (Nat.le_of_eq z4.symm)) (Nat.lt_of_lt_of_le (Nat.lt_succ_of_lt (Heap.lt_size hO)) (Nat.le_of_eq z4.symm)) (.inl ⟨rfl, o5 _ _ nz hz, _, _, _, o5 _ _ nO hO⟩) (st.keep nS o5) hS4 ⟨rfl, fun j t h => by simp at h⟩ ⟨(fun t h => nomatch h), List.nodup_nil⟩ fun h' tk cp ts g1 g3 g4 g5 g6 => ?_
  exact ⟨rfl, hQ h' tk cp ts g1 g3 g4 g5 fun q o d1 d2 d3 d4 d5 e => g6 q o (lt e) d1 d2 d3 d4 d5 (o5 q o (lt e) e)⟩
end
/-- rows of three -/
def rows3 : List V → List V → List V → List (V × V × V)
  | x :: xs, y :: ys, u :: us => (x, y, u) :: rows3 xs ys us
  | _, _, _ => []
theorem rows3_len : ∀ {xs ys us : List V}, xs.length ≤ ys.length → xs.length ≤ us.length → (rows3 xs ys us).length = xs.length
  | [], _, _, _, _ => rfl
  | x :: xs, [], _, h, _ => by simp at h
  | x :: xs, y :: ys, [], _, h => by simp at h
  | x :: xs, y :: ys, u :: us, h1, h2 => by
    rw [rows3, List.length_cons, List.length_cons, rows3_len (by simpa using h1) (by simpa using h2)]
theorem rows3_at : ∀ {xs ys us : List V} {j : Nat} {x y u : V}, xs[j]? = some x → ys[j]? = some y → us[j]? = some u → (rows3 xs ys us)[j]? = some (x, y, u)
  | [], _, _, _, _, _, _, h, _, _ => by simp at h
  | x :: xs, [], _, _, _, _, _, _, h, _ => by simp at h
  | x :: xs, y :: ys, [], _, _, _, _, _, _, h => by simp at h
  | x :: xs, y :: ys, u :: us, 0, _, _, _, h1, h2, h3 => by
    cases h1; cases h2; cases h3; rfl
  | x :: xs, y :: ys, u :: us, j + 1, _, _, _, h1, h2, h3 => rows3_at (xs := xs) (by simpa using h1) (by simpa using h2) (by simpa using h3)
theorem refs_vals : ∀ ts : List Addr, Vals (ts.map V.ref) (ts.map Value.ref)
  | [] => .nil
  | _ :: ts => .cons rfl (refs_vals ts)
def tZip3 (K : PySem.W.Frag) (t : TA) : TE := fun σ H Q => t σ H fun vs H1 => ∃ (a b c : Addr) (xs ys us : List V), vs = [.ref a, .ref b, .ref c] ∧ SqL K H1 a xs ∧ SqL K H1 b ys ∧ SqL K H1 c us ∧ 0 < xs.length ∧ xs.length ≤ ys.length ∧ xs.length ≤ us.length ∧
  ∀ (H' : Hp) (p : Addr) (ts : List Addr), Same H1 H' → H1 p = none → H' p = some (.lst (ts.map V.ref)) → Paired (fun (t : Addr) (r : V × V × V) => H' t = some (.tup [r.1, r.2.1, r.2.2])) ts (rows3 xs ys us) → Q (.ref p) H'
theorem paired_of {α β : Type} {F : α → β → Prop} : ∀ {xs : List α} {ys : List β}, xs.length = ys.length → (∀ (j : Nat) (x : α) (y : β), xs[j]? = some x → ys[j]? = some y → F x y) → Paired F xs ys
  | [], [], _, _ => .nil
  | [], y :: ys, h, _ => by simp at h
  | x :: xs, [], h, _ => by simp at h
  | x :: xs, y :: ys, h, f => .cons (f 0 x y rfl rfl) (paired_of (by simpa using h) fun j a b h1 h2 => f (j + 1) a b (by simpa using h1) (by simpa using h2))
theorem vals_at {xs : List V} {us : List Value} (h : Vals xs us) : ∀ {j : Nat} {u : Value}, us[j]? = some u → ∃ x, xs[j]? = some x ∧ RelV x u := by
  induction h with
  | nil => intro j u h; simp at h
  | cons r t ih =>
    intro j u h
    match j, h with
    | 0, h => cases h; exact ⟨_, rfl, r⟩
    | j + 1, h => exact ih (by simpa using h)
section
variable {X : Cx} {e1 e2 e3 : Expr} {ta : TA} {p p2 pos2 pos : Pos}
/-- list(zip(a, b, c)) -/
theorem pe_zip3 (hc : X.calm = true) (ha : PA X [e1, e2, e3] ta) (hg : Gl X "list") (hm : X.mg "list" = none) (hg2 : Gl X "zip") (hm2 : X.mg "zip" = none)
    (hs : starEach [.Call (.Name "zip" p2) [e1, e2, e3] [] pos2] X.env = (false, eval (.Call (.Name "zip" p2) [e1, e2, e3] [] pos2) X.env) :: starEach [] X.env := by rfl)
    (hs2 : starEach [e1, e2, e3] X.env = (false, eval e1 X.env) :: starEach [e2, e3] X.env := by rfl) (hpl : (backTo pos2 (starEach [e2, e3] X.env)).any (·.1) = false := by rfl) :
    PE X (.Call (.Name "list" p) [.Call (.Name "zip" p2) [e1, e2, e3] [] pos2] [] pos) (tZip3 X.K ta) := by
  refine ⟨fun pins s σ H Q I h => ?_⟩
  refine wpAny_Call_Name_kw (ld_blt I hg hm (show bootBuiltins "list" = some (.type "list") by decide +kernel) ?_)
  refine PyProof.Rows.callWith_type1 ?_ hs rfl
  rw [hs]
  show wpAny _ _ (spliced ((false, eval (.Call (.Name "zip" p2) [e1, e2, e3] [] pos2) X.env) :: backTo pos (starEach [] X.env))) _ _ s
  refine Calls.spliced_cons ?_
  refine Call_ (ld_blt I hg2 hm2 PyProof.Rows.boot_zip (PyProof.Rows.callWith_type1 (thn (ha.run pos2 pins s σ H _ I h) fun us s1 ⟨vs, H1, I1, r1, q1⟩ => ?_) hs2 hpl))
  obtain ⟨a, b, c, xs, ys, zs, rfl, qa, qb, qc, l0, l2, l3, q⟩ := q1
  obtain ⟨A1, ra, pa, na⟩ := I1.list qa
  obtain ⟨A2, rb, pb, nb⟩ := I1.list qb
  obtain ⟨A3, rc, pc, nc⟩ := I1.list qc
  obtain ⟨u1, u2, u3, rfl, rfl, rfl, rfl⟩ : ∃ u1 u2 u3, us = [u1, u2, u3] ∧ u1 = Value.ref a ∧ u2 = Value.ref b ∧ u3 = Value.ref c := by
    cases r1 with
    | cons h1 r1 =>
      cases r1 with
      | cons h2 r1 =>
        cases r1 with
        | cons h3 r1 =>
          cases r1
          exact ⟨_, _, _, rfl, h1, h2, h3⟩
  have la := pa.lt
  have lb := pb.lt
  have lc := pc.lt
  have z1 := ra.length
  have z2 := rb.length
  have z3 := rc.length
  refine zip_begins3 (begins_list a A1.toArray) (begins_list b A2.toArray) (begins_list c A3.toArray) pa.isList pb.isList pc.isList fun h' hz hTI hTO g1 g2 g3 hsz hk => ?_
  refine Calls.spliced_nil ?_
  generalize hN : s1.heap.objs.size = N at *
  have la : @LT.lt Nat instLTNat a N := la
  have lb : @LT.lt Nat instLTNat b N := lb
  have lc : @LT.lt Nat instLTNat c N := lc
  have g' : ∀ {x y : Nat}, (x < y ∨ y < x) → x ≠ y := fun h e => by omega
  have D : Sep (N + 5) (N + 3) (N + 4) N (N + 1) (N + 2) a b c := by
    have f : ∀ {x y l : Nat}, x ≠ y → x ≠ l → x ∉ [y, l] := fun h1 h2 h => by
      simp only [List.mem_cons, List.not_mem_nil, or_false] at h
      rcases h with h | h
      · exact h1 h
      · exact h2 h
    constructor <;> first | exact List.mem_cons_self | (refine f (g' ?_) (g' ?_) <;> omega) | (refine g' ?_; omega)
  have mv : ∀ {l : Addr} {vs : Array Value}, s1.heap.IsList l vs → h'.IsList l vs := fun e => e.at fun o e => hk _ o e
  refine list_zip (s := { s1 with heap := h' }) (I1.ok.hd hc) D (Nat.ne_of_lt (by omega)) (Nat.ne_of_lt (by omega)) (Nat.ne_of_lt (by omega)) (xs := A1.toArray) (ys := A2.toArray) (zs := A3.toArray) (by simp; omega) (by simp; omega) (by simp; omega) (by simp; omega) hz ⟨_, _, _, hTO⟩
    ⟨hTI, ⟨⟨_, g1, rfl, rfl⟩, mv pa.isList⟩, ⟨⟨_, g2, rfl, rfl⟩, mv pb.isList⟩, ⟨_, g3, rfl, rfl⟩, mv pc.isList⟩ fun h2 tk cp ts k1 k2 k3 k4 k5 => ?_
  have kp : ∀ b o, s1.heap.get? b = some o → h2.get? b = some o := fun b o e => by
    have := Heap.lt_size e
    rw [hN] at this
    have this : @LT.lt Nat instLTNat b N := this
    exact k5 b o (g' (.inl (by omega))) (g' (.inl (by omega))) (g' (.inl (by omega))) (g' (.inl (by omega))) (g' (.inl (by omega))) (hk b o e)
  have lts : ts.length = xs.length := by rw [k2.1, List.size_toArray]; omega
  have lrs : (rows3 xs ys zs).length = xs.length := rows3_len l2 l3
  obtain ⟨L, hL⟩ : ∃ L : List (Addr × HO), L = (h'.objs.size, .lst (ts.map V.ref)) :: (ts.zip (rows3 xs ys zs)).map fun p => (p.1, .tup [p.2.1, p.2.2.1, p.2.2.2]) := ⟨_, rfl⟩
  have fs : L.map (·.1) = h'.objs.size :: ts := by
    rw [hL, List.map_cons, List.map_map]
    exact congrArg (List.cons _) (List.map_fst_zip (by omega))
  have big : ∀ p ∈ L, s1.heap.objs.size ≤ p.1 := fun p hp => by
    have : p.1 ∈ h'.objs.size :: ts := by rw [← fs]; exact List.mem_map_of_mem hp
    rw [hN]
    have z6 : h'.objs.size = N + 6 := hsz
    rcases List.mem_cons.mp this with e | e
    · rw [e, z6]; exact Nat.le_add_right _ _
    · have := (k3 _ e).1
      exact Nat.le_trans (by rw [z6]; exact Nat.le_add_right _ _) this
  have nd : (L.map (·.1)).Nodup := by
    rw [fs, List.nodup_cons]
    exact ⟨fun e => (k3 _ e).2 rfl, k4⟩
  have row : ∀ (j : Nat) (t : Addr) (r : V × V × V), ts[j]? = some t → (rows3 xs ys zs)[j]? = some r → ∃ x y u, IsTupOf3 h2 t x y u ∧ RelV r.1 x ∧ RelV r.2.1 y ∧ RelV r.2.2 u := fun j t r ht hr => by
    obtain ⟨x, y, u, e1, e2, e3, e4⟩ := k2.2 j t ht
    obtain ⟨v1, f1, r1⟩ := vals_at ra (by simpa using e1)
    obtain ⟨v2, f2, r2⟩ := vals_at rb (by simpa using e2)
    obtain ⟨v3, f3, r3⟩ := vals_at rc (by simpa using e3)
    have := rows3_at f1 f2 f3
    rw [this] at hr
    cases hr
    exact ⟨x, y, u, e4, r1, r2, r3⟩
  have vr := refs_vals ts
  obtain ⟨J, sm⟩ := laidM (tk := tk) (l := L) I1 kp nd big fun p hp => by
    rw [hL] at hp
    rcases List.mem_cons.mp hp with rfl | hp
    · exact ⟨by rw [List.length_map]; omega, _, cp, vr, k1⟩
    · obtain ⟨⟨t, r⟩, hq, rfl⟩ := List.mem_map.mp hp
      obtain ⟨j, hj, e⟩ := List.mem_iff_getElem.mp hq
      rw [List.getElem_zip] at e
      rw [List.length_zip] at hj
      cases e
      obtain ⟨x, y, u, e4, r1, r2, r3⟩ := row j _ _ (List.getElem?_eq_getElem (by omega)) (List.getElem?_eq_getElem (by omega))
      exact ⟨by show 3 ≤ sizeLine; decide, [x, y, u], .cons r1 (.cons r2 (.cons r3 .nil)), ⟨_, e4, rfl, _, rfl⟩⟩
  refine ⟨.ref h'.objs.size, putM H1 L, J, rfl, q _ _ ts sm (I1.hok.fresh (by rw [hN]; have z6 : h'.objs.size = N + 6 := hsz; rw [z6]; exact Nat.le_add_right _ _)) (putM_at nd (h'.objs.size, _) (by rw [hL]; exact List.mem_cons_self)) (paired_of (by omega) fun j t r ht hr => ?_)⟩
  refine putM_at nd (t, .tup [r.1, r.2.1, r.2.2]) ?_
  rw [hL]
  refine List.mem_cons_of_mem _ (List.mem_map.mpr ⟨(t, r), ?_, rfl⟩)
  refine List.mem_of_getElem? (i := j) ?_
  rw [List.getElem?_zip_eq_some]
  exact ⟨ht, hr⟩
end
end Lz
/-! o.m(e, ..) in a try's body: what is raised is wished for at the caller's slots. -/
namespace Mw
open PySem PySem.Spec PyProof.Rows L2
section
variable {X : Cx} {CX : CXT} {k : Nat} {f C : Addr} {fd : FuncData} {ps : List Str} {sp : Sp} {E : L2.St → XK} {x m : Str} {p pos apos : Pos} {e o : Expr} {es : List Expr} {ta : TE} {t : TA}
def tMethW (C : Addr) (m : Str) (sp : Sp) (E : L2.St → XK) (ta : TE) (t : TA) : TE := fun σ H Q => ta σ H fun x H1 => ∃ a dx fs, x = .ref a ∧ H1 a = some (.ins C dx fs) ∧ fs.lookup m = none ∧ t σ H1 fun vs H2 => sp (x :: vs) H2 Q (E σ)
theorem pe_methW {pl : Sem Bool} (he : PE X o ta) (c : Cls X.K C) (hm : Meth X.K C m f) (F : FnOk X.prog X.w X.K X.mg X.base CX k f fd ps sp) (hr : Room k X.A) (hb : Binds X.K fd ps []) (hx : ∀ σ, PassesAt CX X σ (E σ)) (ha : PA X (e :: es) t)
    (h1 : starEach (e :: es) X.env = (false, eval e X.env) :: starEach es X.env := by rfl) (h2 : (backTo pos (starEach es X.env)).any (·.1) = false := by rfl)
    (h3 : eval (.Call (.Attribute o m apos) (e :: es) [] pos) X.env = (do
      let ov ← eval o X.env
      standAt apos.atName
      let (f, first) ← holding [ov] (getMethod ov m pl)
      callWith pos f first (backTo pos (starEach (e :: es) X.env)) (backToKw pos (keywordEach [] X.env))) := by rfl) : PE X (.Call (.Attribute o m apos) (e :: es) [] pos) (tMethW C m sp E ta t) := by
  refine ⟨fun pins s σ H Q I h => ?_⟩
  refine PySem.W.methodCall_KW (pl := pl) (thn (he.run pins s σ H _ I h) fun u s1 ⟨x, H1, I1, rx, a, dx, fs, ex, ea, l, q⟩ => ?_) h3
  subst ex
  cases rx
  refine getmeth_ok I1 ea c hm l (PySem.W.callWith_K (first := [.ref a]) (h₀ := X.base) I.ok.mod.kin hm.kp (thn (ha.run pos pins s1 σ H1 _ I1 q) fun us s2 ⟨vs, H2, I2, r, q2⟩ => ⟨I2.kIn, ?_⟩) h1 h2)
  exact run_fnS (us := .ref a :: us) (vs := .ref a :: vs) F hr hb (hx σ) I2 (.cons rfl r) q2
/-- o.f within a comprehension: K is told -/
theorem pe_fldK {K : PySem.W.Frag} {e : Expr} {f : Str} (h : PE X e ta) (h1 : attributeBase e f X.env (eval e X.env) = eval e X.env) (h2 : X.K = K := by rfl) : PE X (.Attribute e f pos) (tFld K ta f) := by
  subst h2
  exact pe_fld h h1
/-- the ways behind a test joined -/
theorem pt_cut {c : Expr} {t : TT} (h : PT X c t) : PT X c (fun σ H Q => ∃ R : Bool → Hp → Prop, t σ H R ∧ ∀ b H', R b H' → Q b H') := ⟨fun pins s σ H Q I h' => by
  obtain ⟨R, h1, h2⟩ := h'
  refine wpAny_mono (h.run pins s σ H R I h1) (fun b s' q => ?_) fun _ _ z => z
  obtain ⟨H', I', q⟩ := q
  exact ⟨H', I', h2 b H' q⟩⟩
end
end Mw
namespace Sc
open PySem L2 LamX
/-! ### what the law's turn keeps -/
abbrev QL : Str := ("law" : Str) ++ (".<locals>." : Str) ++ ("<lambda>" : Str)
abbrev fieldsW : List Str := ["copies", "cached", "batch", "early", "drain", "policy", "groups", "tables", "book"]
abbrev dutiesW : List Str := ["cleaned", "dropped", "bind_copied", "give_copied", "take_copied"]
theorem sqT_ext {K : PySem.W.Frag} {H H' : Hp} {a : Addr} {xs : List V} (h : SqT K H a xs) (k : ExtN H H') : SqT K H' a xs := Dd2.sqT_st h fun o z e => k _ o e z
theorem dp_ext {K : PySem.W.Frag} {H H' : Hp} (k : ExtN H H') (d : PyData) (v : V) (h : Dp K H v d) : Dp K H' v d := Dd2.dp_st (fun a o z e => k a o e z) d v h
theorem DutAt.ext {K : PySem.W.Frag} {H H' : Hp} {q : Addr} {v : B5} (h : DutAt K H q v) (k : ExtN H H') : DutAt K H' q v := by
  obtain ⟨t1, t2, t3, t4, t5, e, o, h1, h2, h3, h4, h5⟩ := h
  exact ⟨t1, t2, t3, t4, t5, k _ _ e (fun ps z => by cases z), o, sqT_ext h1 k, sqT_ext h2 k, sqT_ext h3 k, sqT_ext h4 k, sqT_ext h5 k⟩
theorem ToldAt.ext {K : PySem.W.Frag} {H H' : Hp} {l : Addr} {s : S8} (h : ToldAt K H l s none) (k : ExtN H H') : ToldAt K H' l s none := by
  obtain ⟨x, e, hs, n⟩ := h
  exact ⟨x, k _ _ e (fun ps z => by cases z), hs, n⟩
theorem BagS.ext {H H' : Hp} {b : Addr} (h : BagS H b) (k : ExtN H H') : BagS H' b := by
  obtain ⟨i, j, e, r⟩ := h
  exact ⟨i, j, k _ _ e (fun ps z => by cases z), r⟩
theorem tabs_b {T : List (Addr × Str)} {b : Addr} {H H' : Hp} (t : Tabs T H) (hb : BagS H b) (f : SameB b H H') : Tabs T H' := fun p hp => by
  obtain ⟨i, j, q, _⟩ := hb
  obtain ⟨ps, h1, h2, h3⟩ := t p hp
  refine ⟨ps, f _ _ (fun z => by rw [z, q] at h1; cases h1) h1, h2, fun pos cv hc => ?_⟩
  obtain ⟨c0, e1, e2⟩ := h3 pos cv hc
  exact ⟨c0, e1, f _ _ (fun z => by rw [z, q] at e2; cases e2) e2⟩
/-- the script -/
def Scr0 (K : PySem.W.Frag) (H : Hp) (a : Addr) (xs : List V) : Prop := (∀ H', SqL K H' a xs) ∨ ((H a = some (.lst xs)) ∨ ∃ o, H a = some (.frz o (.lst xs)))
def Scr (K : PySem.W.Frag) (H : Hp) (a : Addr) (xs : List V) (b : Addr) : Prop := (∀ H', SqL K H' a xs) ∨ (a ≠ b ∧ ((H a = some (.lst xs)) ∨ ∃ o, H a = some (.frz o (.lst xs))))
theorem Scr0.of {K : PySem.W.Frag} {H : Hp} {a : Addr} {xs : List V} (h : SqL K H a xs) : Scr0 K H a xs := by
  rcases h with (e | ⟨o, e⟩) | k
  · exact .inr (.inl e)
  · exact .inr (.inr ⟨o, e⟩)
  · exact .inl fun H' => .inr k
theorem Scr0.sq {K : PySem.W.Frag} {H : Hp} {a : Addr} {xs : List V} (h : Scr0 K H a xs) : SqL K H a xs := by
  rcases h with h | h | h
  · exact h H
  · exact .inl (.inl h)
  · exact .inl (.inr h)
theorem Scr0.same {K : PySem.W.Frag} {H H' : Hp} {a : Addr} {xs : List V} (h : Scr0 K H a xs) (k : Same H H') : Scr0 K H' a xs := h.imp id fun z => z.imp (k _ _) fun ⟨o, e⟩ => ⟨o, k _ _ e⟩
theorem Scr0.bag {K : PySem.W.Frag} {H H' : Hp} {a b : Addr} {xs : List V} (h : Scr0 K H a xs) (nb : H b = none) (k : Same H H') : Scr K H' a xs b := by
  rcases h with z | z | ⟨o, z⟩
  · exact .inl z
  · exact .inr ⟨ne_of_none z nb, .inl (k _ _ z)⟩
  · exact .inr ⟨ne_of_none z nb, .inr ⟨o, k _ _ z⟩⟩
theorem Scr.out {K : PySem.W.Frag} {H : Hp} {a b : Addr} {xs : List V} (h : Scr K H a xs b) : Scr0 K H a xs := h.imp id fun z => z.2
theorem Scr.b {K : PySem.W.Frag} {H H' : Hp} {a b : Addr} {xs : List V} (h : Scr K H a xs b) (k : SameB b H H') : Scr K H' a xs b := h.imp id fun z => ⟨z.1, z.2.imp (k _ _ z.1) fun ⟨o, e⟩ => ⟨o, k _ _ z.1 e⟩⟩
theorem Scr.ext {K : PySem.W.Frag} {H H' : Hp} {a b : Addr} {xs : List V} (h : Scr K H a xs b) (k : ExtN H H') : Scr K H' a xs b := h.imp id fun z => ⟨z.1, z.2.imp (fun e => k _ _ e fun ps z => by cases z) fun ⟨o, e⟩ => ⟨o, k _ _ e fun ps z => by cases z⟩⟩
structure Fx (K : PySem.W.Frag) (pT lF lD lW lS : Addr) (H : Hp) : Prop where
  f : H lF = some (.lst (fieldsW.map V.str))
  d : H lD = some (.lst (dutiesW.map V.str))
  w : DutAt K H lW std5
  s : H lS = some (.lst (vals8 std8))
  t : Tabs [(pT, QL)] H
section
variable {K : PySem.W.Frag} {pT lF lD lW lS bb : Addr} {H H' : Hp}
theorem Fx.same (h : Fx K pT lF lD lW lS H) (k : Same H H') : Fx K pT lF lD lW lS H' := ⟨k _ _ h.f, k _ _ h.d, h.w.same k, k _ _ h.s, h.t.ext k⟩
theorem Fx.b (h : Fx K pT lF lD lW lS H) (hb : BagS H bb) (k : SameB bb H H') : Fx K pT lF lD lW lS H' := ⟨k _ _ (hb.ne h.f fun i j z => by cases z) h.f, k _ _ (hb.ne h.d fun i j z => by cases z) h.d, h.w.b hb k, k _ _ (hb.ne h.s fun i j z => by cases z) h.s, tabs_b h.t hb k⟩
theorem Fx.ext (h : Fx K pT lF lD lW lS H) (k : ExtN H H') (t : Tabs [(pT, QL)] H') : Fx K pT lF lD lW lS H' := ⟨k _ _ h.f (fun ps z => by cases z), k _ _ h.d (fun ps z => by cases z), h.w.ext k, k _ _ h.s (fun ps z => by cases z), t⟩
end
theorem passF {X : Cx} : Passes (L2.CX X.prog X.w) X C8.E0 := fun _ _ _ _ _ _ _ ⟨_, _, _, _, _, _, _, _, _, _, _, _, h⟩ => h.elim
/-! ### rows and their first wrong one -/
def rowsOf (ns : List Str) (f : Nat → Bool) : List (Str × Bool) := ns.zipIdx.map fun p => (p.1, f p.2)
theorem rows_first {ns : List Str} {f : Nat → Bool} {m : Nat} {n : Str} (h : ns[m]? = some n) (hm : f m = false) (hj : ∀ j, j < m → f j = true) : firstBad (rowsOf ns f) = some n := by
  have at_ : ∀ j, (rowsOf ns f)[j]? = (ns[j]?).map fun x => (x, f j) := fun j => by
    unfold rowsOf
    rw [List.getElem?_map, List.getElem?_zipIdx]
    cases ns[j]? <;> simp
  refine first_at (i := m) ?_ fun j hj' r hr => ?_
  · rw [at_, h, ← hm]
    rfl
  · rw [at_] at hr
    obtain ⟨x, _, rfl⟩ := Option.map_eq_some_iff.mp hr
    exact hj j hj'
/-- the least of some numbers -/
theorem least_of : ∀ {ks : List Int}, ks ≠ [] → ∃ m ∈ ks, ∀ k ∈ ks, m ≤ k
  | [k], _ => ⟨k, List.mem_cons_self, fun j hj => by rw [List.mem_singleton.mp hj]; exact Int.le_refl _⟩
  | k :: l :: ks, _ => by
    obtain ⟨m, hm, h⟩ := least_of (ks := l :: ks) (by simp)
    by_cases q : k ≤ m
    · refine ⟨k, List.mem_cons_self, fun j hj => ?_⟩
      rcases List.mem_cons.mp hj with rfl | hj
      · exact Int.le_refl _
      · exact Int.le_trans q (h j hj)
    · refine ⟨m, List.mem_cons_of_mem _ hm, fun j hj => ?_⟩
      rcases List.mem_cons.mp hj with rfl | hj
      · omega
      · exact h j hj
theorem rows_least {ns : List Str} {ks : List Int} (h0 : ks ≠ []) (hk : ∀ k ∈ ks, 0 ≤ k ∧ k < ns.length) : ∃ (m : Int) (n : Str), m ∈ ks ∧ (∀ k ∈ ks, m ≤ k) ∧ 0 ≤ m ∧ ns[m.toNat]? = some n ∧ firstBad (rowsOf ns fun j => !decide ((j : Int) ∈ ks)) = some n := by
  obtain ⟨m, hm, hl⟩ := least_of h0
  obtain ⟨m0, m1⟩ := hk m hm
  have e : ns[m.toNat]? = some (ns[m.toNat]'(by omega)) := List.getElem?_eq_getElem _
  have em : ((m.toNat : Nat) : Int) = m := Int.toNat_of_nonneg m0
  refine ⟨m, _, hm, hl, m0, e, rows_first e (by simp only [em]; simp [hm]) fun j hj => ?_⟩
  have : ¬ ((j : Int) ∈ ks) := fun z => by
    have := hl _ z
    omega
  simp [this]
/-! ### bent lists -/
/-- a right value passes its check -/
theorem good8 {s : S8} (hs : s.Ok) : ∀ j, j < 8 → ∃ x d, (vals8 s ++ [V.non])[j]? = some x ∧ (∀ K H, DS K H x d) ∧ chk j d = true := fun j hj => by
  have sh : ∀ d ∈ ds8 s, SeqAt.shaped d = true := fun d hd => io_shaped (ok_ds8 hs d hd)
  have c : j = 0 ∨ j = 1 ∨ j = 2 ∨ j = 3 ∨ j = 4 ∨ j = 5 ∨ j = 6 ∨ j = 7 := by omega
  rcases c with rfl | rfl | rfl | rfl | rfl | rfl | rfl | rfl
  · exact ⟨_, .str s.copies, rfl, fun K H => ⟨.str _, sh _ (by simp [ds8])⟩, by rcases cp_cases hs.c with h | h | h <;> rw [h] <;> decide +kernel⟩
  · exact ⟨_, .bool s.cached, rfl, fun K H => ⟨.bl _, sh _ (by simp [ds8])⟩, rfl⟩
  · exact ⟨_, .int s.batch, rfl, fun K H => ⟨.int _, sh _ (by simp [ds8])⟩, decide_eq_true ⟨hs.b0, hs.b1⟩⟩
  · exact ⟨_, .bool s.early, rfl, fun K H => ⟨.bl _, sh _ (by simp [ds8])⟩, rfl⟩
  · exact ⟨_, .bool s.drain, rfl, fun K H => ⟨.bl _, sh _ (by simp [ds8])⟩, rfl⟩
  · exact ⟨_, .str s.policy, rfl, fun K H => ⟨.str _, sh _ (by simp [ds8])⟩, by rcases pl_cases hs.p with h | h | h | h | h <;> rw [h] <;> decide +kernel⟩
  · exact ⟨_, .int s.groups, rfl, fun K H => ⟨.int _, sh _ (by simp [ds8])⟩, decide_eq_true ⟨hs.g0, hs.g1⟩⟩
  · exact ⟨_, .int s.tables, rfl, fun K H => ⟨.int _, sh _ (by simp [ds8])⟩, decide_eq_true ⟨hs.t0, hs.t1⟩⟩
/-- all but the bag and the list that is made -/
def Kp (b D : Addr) (q : Addr) : Prop := q ≠ b ∧ q ≠ D
theorem dpS_new {K : PySem.W.Frag} {b D : Addr} {H0 H : Hp} {x : V} {d : PyData} {ob oD : HO} (h : DpS K (NewIn H0) H x d) (hb : H0 b = some ob) (hD : H0 D = some oD) : DpS K (Kp b D) H x d := h.of fun q o n _ => ⟨(fun z => by rw [z] at n; unfold NewIn at n; rw [hb] at n; cases n), (fun z => by rw [z] at n; unfold NewIn at n; rw [hD] at n; cases n)⟩
theorem dpS_w {K : PySem.W.Frag} {b D t : Addr} {H : Hp} {m : Nat} {ys : List V} (h : SqT K H t (wv m)) (hb : BagS H b) (hD : H D = some (.lst ys)) : DpS K (Kp b D) H (.ref t) (dW m) := fun H' k => dp_w (by
  obtain ⟨i, j, hb, _⟩ := hb
  rcases h with (h | ⟨o, h⟩) | h
  · exact .inl (.inl (k _ _ ⟨(fun z => by rw [z, hb] at h; cases h), (fun z => by rw [z, hD] at h; cases h)⟩ h))
  · exact .inl (.inr ⟨o, k _ _ ⟨(fun z => by rw [z, hb] at h; cases h), (fun z => by rw [z, hD] at h; cases h)⟩ h⟩)
  · exact .inr h)
/-- a value at place j: odd if j is one of ks, else that of s -/
def BentS (K : PySem.W.Frag) (b D : Addr) (H : Hp) (ks : List Int) (s : S8) (j : Nat) (x : V) : Prop := ((j : Int) ∈ ks ∧ ∃ d ∈ oddL j, DpS K (Kp b D) H x d) ∨ (¬ (j : Int) ∈ ks ∧ (vals8 s ++ [V.non])[j]? = some x)
theorem BentS.mv {K : PySem.W.Frag} {b D : Addr} {H H' : Hp} {ks : List Int} {s : S8} {j : Nat} {x : V} (h : BentS K b D H ks s j x) (k : ∀ q o, q ≠ b → q ≠ D → H q = some o → H' q = some o) : BentS K b D H' ks s j x := h.imp (fun ⟨z, d, hd, q⟩ => ⟨z, d, hd, dpS_mv q fun q o n e => k q o n.1 n.2 e⟩) id
theorem BentS.row {K : PySem.W.Frag} {b D : Addr} {H H1 : Hp} {ks : List Int} {s : S8} {j : Nat} {x : V} (h : BentS K b D H ks s j x) (hs : s.Ok) (hj : j < 8) (k : ExtN H H1) : ∃ d, DS K H1 x d ∧ chk j d = !decide ((j : Int) ∈ ks) := by
  rcases h with ⟨z, d, hd, q⟩ | ⟨z, e⟩
  · obtain ⟨c, sh⟩ := odd_bad j (by omega) d hd
    exact ⟨d, ⟨dp_ext k _ _ q.dp, sh⟩, by rw [c]; simp [z]⟩
  · obtain ⟨x', d, e', h1, h2⟩ := good8 hs j hj
    rw [e'] at e
    cases e
    exact ⟨d, h1 _ _, by rw [h2]; simp [z]⟩
theorem BentS.last {K : PySem.W.Frag} {CB b D : Addr} {H H1 : Hp} {ks : List Int} {s : S8} {x : V} (h : BentS K b D H ks s 8 x) (k : ExtN H H1) : BkD K CB H1 x (!decide ((8 : Int) ∈ ks)) std5 := by
  rcases h with ⟨z, d, hd, q⟩ | ⟨z, e⟩
  · refine .inr ⟨d, dp_ext k _ _ q.dp, fun e => ?_, by simpa using z⟩
    have := q.dp
    rw [e] at this
    cases this
    have := List.all_eq_true.mp (odd_some 8 (by decide)) _ hd
    simp at this
  · cases e
    exact .inl ⟨.inl ⟨rfl, rfl⟩, by simpa using z⟩
/-- the nine values as arguments -/
theorem bent_set {K : PySem.W.Frag} {CB b D : Addr} {H H1 : Hp} {ks : List Int} {s : S8} {xs : List V} (hs : s.Ok) (hl : xs.length = 9) (h : ∀ j x, xs[j]? = some x → BentS K b D H ks s j x) (k : ExtN H H1) (h0 : ks ≠ []) (hk : ∀ k ∈ ks, 0 ≤ k ∧ k < 9) :
    ∃ (x1 x2 x3 x4 x5 x6 x7 x8 bk : V) (d1 d2 d3 d4 d5 d6 d7 d8 : PyData) (b9 : Bool) (m : Int) (n : Str), xs = [x1, x2, x3, x4, x5, x6, x7, x8, bk] ∧ DS K H1 x1 d1 ∧ DS K H1 x2 d2 ∧ DS K H1 x3 d3 ∧ DS K H1 x4 d4 ∧ DS K H1 x5 d5 ∧ DS K H1 x6 d6 ∧ DS K H1 x7 d7 ∧ DS K H1 x8 d8 ∧ BkD K CB H1 bk b9 std5 ∧
      m ∈ ks ∧ (∀ k ∈ ks, m ≤ k) ∧ 0 ≤ m ∧ fieldsW[m.toNat]? = some n ∧ firstBad (rows9 d1 d2 d3 d4 d5 d6 d7 d8 b9) = some n := by
  obtain ⟨x1, x2, x3, x4, x5, x6, x7, x8, bk, rfl⟩ : ∃ x1 x2 x3 x4 x5 x6 x7 x8 bk, xs = [x1, x2, x3, x4, x5, x6, x7, x8, bk] := by
    match xs, hl with
    | [x1, x2, x3, x4, x5, x6, x7, x8, bk], _ => exact ⟨_, _, _, _, _, _, _, _, _, rfl⟩
  obtain ⟨d1, g1, c1⟩ := (h 0 x1 rfl).row (j := 0) hs (by decide) k
  obtain ⟨d2, g2, c2⟩ := (h 1 x2 rfl).row (j := 1) hs (by decide) k
  obtain ⟨d3, g3, c3⟩ := (h 2 x3 rfl).row (j := 2) hs (by decide) k
  obtain ⟨d4, g4, c4⟩ := (h 3 x4 rfl).row (j := 3) hs (by decide) k
  obtain ⟨d5, g5, c5⟩ := (h 4 x5 rfl).row (j := 4) hs (by decide) k
  obtain ⟨d6, g6, c6⟩ := (h 5 x6 rfl).row (j := 5) hs (by decide) k
  obtain ⟨d7, g7, c7⟩ := (h 6 x7 rfl).row (j := 6) hs (by decide) k
  obtain ⟨d8, g8, c8⟩ := (h 7 x8 rfl).row (j := 7) hs (by decide) k
  obtain ⟨m, n, m1, m2, m3, m4, m5⟩ := rows_least (ns := fieldsW) h0 hk
  refine ⟨x1, x2, x3, x4, x5, x6, x7, x8, bk, d1, d2, d3, d4, d5, d6, d7, d8, _, m, n, rfl, g1, g2, g3, g4, g5, g6, g7, g8, (h 8 bk rfl).last k, m1, m2, m3, m4, ?_⟩
  have e : rows9 d1 d2 d3 d4 d5 d6 d7 d8 (!decide ((8 : Int) ∈ ks)) = rowsOf fieldsW fun j => !decide ((j : Int) ∈ ks) := by
    show [(("copies" : Str), chk 0 d1), ("cached", chk 1 d2), ("batch", chk 2 d3), ("early", chk 3 d4), ("drain", chk 4 d5), ("policy", chk 5 d6), ("groups", chk 6 d7), ("tables", chk 7 d8), ("book", !decide ((8 : Int) ∈ ks))] = _
    rw [c1, c2, c3, c4, c5, c6, c7, c8]
    rfl
  rw [e]
  exact m5
/-- no right setting has a wrong row -/
theorem good_rows {K : PySem.W.Frag} {H1 : Hp} {s : S8} {x1 x2 x3 x4 x5 x6 x7 x8 : V} {d1 d2 d3 d4 d5 d6 d7 d8 : PyData} (hs : s.Ok) (e : [x1, x2, x3, x4, x5, x6, x7, x8] = vals8 s) (h1 : DS K H1 x1 d1) (h2 : DS K H1 x2 d2) (h3 : DS K H1 x3 d3) (h4 : DS K H1 x4 d4) (h5 : DS K H1 x5 d5) (h6 : DS K H1 x6 d6) (h7 : DS K H1 x7 d7) (h8 : DS K H1 x8 d8) :
    firstBad (rows9 d1 d2 d3 d4 d5 d6 d7 d8 true) = none := by
  simp only [List.cons.injEq, and_true] at e
  obtain ⟨rfl, rfl, rfl, rfl, rfl, rfl, rfl, rfl⟩ := e
  have g : ∀ {j : Nat} {x : V} {d : PyData}, j < 8 → (vals8 s ++ [V.non])[j]? = some x → DS K H1 x d → chk j d = true := fun {j x d} hj e hd => by
    obtain ⟨x', d', e', q, c⟩ := good8 hs j hj
    rw [e'] at e
    cases e
    have q := (q K H1).1
    have hd := hd.1
    have : d = d' := by
      have c0 : j = 0 ∨ j = 1 ∨ j = 2 ∨ j = 3 ∨ j = 4 ∨ j = 5 ∨ j = 6 ∨ j = 7 := by omega
      rcases c0 with rfl | rfl | rfl | rfl | rfl | rfl | rfl | rfl <;> cases e' <;> cases q <;> cases hd <;> rfl
    rw [this]
    exact c
  have r : ∀ y ∈ rows9 d1 d2 d3 d4 d5 d6 d7 d8 true, y.2 = true := fun y hy => by
    have hy : y ∈ [(("copies" : Str), chk 0 d1), ("cached", chk 1 d2), ("batch", chk 2 d3), ("early", chk 3 d4), ("drain", chk 4 d5), ("policy", chk 5 d6), ("groups", chk 6 d7), ("tables", chk 7 d8), ("book", true)] := hy
    simp only [List.mem_cons, List.not_mem_nil, or_false] at hy
    rcases hy with rfl | rfl | rfl | rfl | rfl | rfl | rfl | rfl | rfl
    · exact g (j := 0) (by decide) rfl h1
    · exact g (j := 1) (by decide) rfl h2
    · exact g (j := 2) (by decide) rfl h3
    · exact g (j := 3) (by decide) rfl h4
    · exact g (j := 4) (by decide) rfl h5
    · exact g (j := 5) (by decide) rfl h6
    · exact g (j := 6) (by decide) rfl h7
    · exact g (j := 7) (by decide) rfl h8
    · rfl
  exact first_none r
/-! the same for a book's five -/
def mask (v : B5) : Nat → Nat
  | 0 => v.1
  | 1 => v.2.1
  | 2 => v.2.2.1
  | 3 => v.2.2.2.1
  | _ => v.2.2.2.2
theorem mask_lt {v : B5} (h : ok5 v) (j : Nat) : mask v j < 8 := by
  obtain ⟨h1, h2, h3, h4, h5⟩ := h
  unfold mask
  split <;> assumption
def BentB (K : PySem.W.Frag) (b D : Addr) (H : Hp) (ks : List Int) (v : B5) (j : Nat) (x : V) : Prop := ((j : Int) ∈ ks ∧ ∃ d ∈ oddDs, DpS K (Kp b D) H x d) ∨ (¬ (j : Int) ∈ ks ∧ DpS K (Kp b D) H x (dW (mask v j)))
theorem BentB.mv {K : PySem.W.Frag} {b D : Addr} {H H' : Hp} {ks : List Int} {v : B5} {j : Nat} {x : V} (h : BentB K b D H ks v j x) (k : ∀ q o, q ≠ b → q ≠ D → H q = some o → H' q = some o) : BentB K b D H' ks v j x := h.imp (fun ⟨z, d, hd, q⟩ => ⟨z, d, hd, dpS_mv q fun q o n e => k q o n.1 n.2 e⟩) fun ⟨z, q⟩ => ⟨z, dpS_mv q fun q o n e => k q o n.1 n.2 e⟩
theorem BentB.row {K : PySem.W.Frag} {b D : Addr} {H H1 : Hp} {ks : List Int} {v : B5} {j : Nat} {x : V} (h : BentB K b D H ks v j x) (hv : ok5 v) (k : ExtN H H1) : ∃ d, DS K H1 x d ∧ dirsD d = !decide ((j : Int) ∈ ks) := by
  rcases h with ⟨z, d, hd, q⟩ | ⟨z, q⟩
  · obtain ⟨c, sh⟩ := oddD_bad d hd
    exact ⟨d, ⟨dp_ext k _ _ q.dp, sh⟩, by rw [c]; simp [z]⟩
  · exact ⟨_, ⟨dp_ext k _ _ q.dp, shaped_w _⟩, by rw [dirs_w (mask_lt hv j)]; simp [z]⟩
theorem bent_book {K : PySem.W.Frag} {b D : Addr} {H H1 : Hp} {ks : List Int} {v : B5} {xs : List V} (hv : ok5 v) (hl : xs.length = 5) (h : ∀ j x, xs[j]? = some x → BentB K b D H ks v j x) (k : ExtN H H1) (h0 : ks ≠ []) (hk : ∀ k ∈ ks, 0 ≤ k ∧ k < 5) :
    ∃ (x1 x2 x3 x4 x5 : V) (d1 d2 d3 d4 d5 : PyData) (m : Int) (n : Str), xs = [x1, x2, x3, x4, x5] ∧ DS K H1 x1 d1 ∧ DS K H1 x2 d2 ∧ DS K H1 x3 d3 ∧ DS K H1 x4 d4 ∧ DS K H1 x5 d5 ∧ m ∈ ks ∧ (∀ k ∈ ks, m ≤ k) ∧ 0 ≤ m ∧ dutiesW[m.toNat]? = some n ∧ firstBad (rows5 d1 d2 d3 d4 d5) = some n := by
  obtain ⟨x1, x2, x3, x4, x5, rfl⟩ : ∃ x1 x2 x3 x4 x5, xs = [x1, x2, x3, x4, x5] := by
    match xs, hl with
    | [x1, x2, x3, x4, x5], _ => exact ⟨_, _, _, _, _, rfl⟩
  obtain ⟨d1, g1, c1⟩ := (h 0 x1 rfl).row hv k
  obtain ⟨d2, g2, c2⟩ := (h 1 x2 rfl).row hv k
  obtain ⟨d3, g3, c3⟩ := (h 2 x3 rfl).row hv k
  obtain ⟨d4, g4, c4⟩ := (h 3 x4 rfl).row hv k
  obtain ⟨d5, g5, c5⟩ := (h 4 x5 rfl).row hv k
  obtain ⟨m, n, m1, m2, m3, m4, m5⟩ := rows_least (ns := dutiesW) h0 hk
  refine ⟨x1, x2, x3, x4, x5, d1, d2, d3, d4, d5, m, n, rfl, g1, g2, g3, g4, g5, m1, m2, m3, m4, ?_⟩
  have e : rows5 d1 d2 d3 d4 d5 = rowsOf dutiesW fun j => !decide ((j : Int) ∈ ks) := by
    unfold rows5
    rw [c1, c2, c3, c4, c5]
    rfl
  rw [e]
  exact m5
theorem good_rowsB {v : B5} (hv : ok5 v) : firstBad (rows5 (dW v.1) (dW v.2.1) (dW v.2.2.1) (dW v.2.2.2.1) (dW v.2.2.2.2)) = none := by
  obtain ⟨h1, h2, h3, h4, h5⟩ := hv
  refine first_none fun y hy => ?_
  simp only [rows5, List.mem_cons, List.not_mem_nil, or_false] at hy
  rcases hy with rfl | rfl | rfl | rfl | rfl
  · exact dirs_w h1
  · exact dirs_w h2
  · exact dirs_w h3
  · exact dirs_w h4
  · exact dirs_w h5
end Sc
namespace Sc
open PySem L2
/-! ### the texts -/
theorem join_snoc (sep y : Str) : ∀ {ps : List Str}, ps ≠ [] → Str.join sep (ps ++ [y]) = Str.join sep ps ++ sep ++ y
  | [p], _ => rfl
  | p :: q :: ps, _ => by
    show p ++ sep ++ Str.join sep ((q :: ps) ++ [y]) = p ++ sep ++ Str.join sep (q :: ps) ++ sep ++ y
    rw [join_snoc sep y (ps := q :: ps) (by simp)]
    simp only [Str.append_assoc]
theorem told_join (rs : List Itm) : toldT rs = Str.join ", " (pieces rs) := TL.join_eq _ _
theorem pieces_pos {rs : List Itm} : ∀ p ∈ pieces rs, 0 < p.length := fun p hp => by
  unfold pieces at hp
  obtain ⟨r, _, rfl⟩ := List.mem_map.mp hp
  unfold pcs
  rw [strLen_append, strLen_append, show (("=" : Str)).length = 1 by decide +kernel]
  omega
theorem told_nil {rs : List Itm} : toldT rs = "" ↔ pieces rs = [] := by
  refine ⟨fun h => ?_, fun h => by rw [told_join, h]; decide +kernel⟩
  cases e : pieces rs with
  | nil => rfl
  | cons p ps =>
    have l := join_mem_le ", " (pieces rs) p (by rw [e]; exact List.mem_cons_self)
    rw [← told_join, h, show (("" : Str)).length = 0 by decide +kernel] at l
    have := pieces_pos p (by rw [e]; exact List.mem_cons_self)
    omega
theorem pieces_app (a b : List Itm) : pieces (a ++ b) = pieces a ++ pieces b := by
  unfold pieces
  rw [List.filter_append, List.map_append]
def moreA (W : Str) : List Str := if W = "" then [] else [W]
def moreB (W T : Str) : List Str := moreA W ++ (if T = "Book()" then [] else ["book=" ++ T])
theorem more_join (rs : List Itm) : Str.join ", " (moreA (toldT rs)) = toldT rs := by
  unfold moreA
  by_cases h : toldT rs = ""
  · rw [if_pos h, h]
    decide +kernel
  · rw [if_neg h]
    rfl
theorem pcs_book (T : Str) : pcs "book" T = "book=" ++ T := by
  unfold pcs
  rw [show ((Str.empty ++ "book") ++ "=" : Str) = "book=" by decide +kernel]
theorem set_text (s : S8) (v : B5) : ("Setting(" ++ Txt.join ", " (moreB (toldT (srows s)) (bookT v))) ++ ")" = setT s v := by
  unfold setT
  rw [show Str.empty ++ ("Setting(" : Str) = "Setting(" from emp_app _]
  have e : Txt.join ", " (moreB (toldT (srows s)) (bookT v)) = toldT (srowsB s v) := by
    rw [TL.join_eq]
    unfold moreB srowsB
    by_cases hb : bookT v = "Book()"
    · rw [if_pos hb, if_pos hb, List.append_nil, List.append_nil, more_join]
    · rw [if_neg hb, if_neg hb, told_join (srows s ++ _), pieces_app]
      have pb : pieces [(("book" : Str), bookT v, true)] = ["book=" ++ bookT v] := by
        show [pcs "book" (bookT v)] = _
        rw [pcs_book]
      rw [pb]
      unfold moreA
      by_cases hw : toldT (srows s) = ""
      · rw [if_pos hw, told_nil.mp hw]
      · rw [if_neg hw, join_snoc _ _ (fun z => hw (told_nil.mpr z)), ← told_join]
        rfl
  rw [e]
theorem std_text : bookT std5 = "Book()" := by decide +kernel
theorem set_text0 (s : S8) : ("Setting(" ++ toldT (srows s)) ++ ")" = setT s std5 := by
  rw [← set_text]
  have e : moreB (toldT (srows s)) (bookT std5) = moreA (toldT (srows s)) := by
    unfold moreB
    rw [if_pos std_text, List.append_nil]
  rw [e, TL.join_eq, more_join]
theorem book_text (v : B5) : ("Book(" ++ toldT (brows v)) ++ ")" = bookT v := by
  unfold bookT
  rw [show Str.empty ++ ("Book(" : Str) = "Book(" from emp_app _]
theorem srows_sz {s : S8} (hs : s.Ok) : ∀ r ∈ srows s, r.1.length ≤ 100 ∧ r.2.1.length ≤ 60000 := fun r hr => srows_ok hs std5 r (by unfold srowsB; exact List.mem_append_left _ hr)
theorem told_small {s : S8} (hs : s.Ok) : (toldT (srows s)).length ≤ 1300000 := by
  have := toldT_len (srows_sz hs) (show 8 ≤ 20 by decide)
  omega
/-! ### the rows that the law writes -/
theorem rows_book {K : PySem.W.Frag} {H : Hp} {v : B5} {ts : List Addr} {t1 t2 t3 t4 t5 u1 u2 u3 u4 u5 : Addr} (hv : ok5 v) (hp : Paired (fun (t : Addr) (r : V × V × V) => H t = some (.tup [r.1, r.2.1, r.2.2])) ts (Lz.rows3 (dutiesW.map V.str) [.ref t1, .ref t2, .ref t3, .ref t4, .ref t5] [.ref u1, .ref u2, .ref u3, .ref u4, .ref u5]))
    (h1 : SqT K H t1 (wv v.1)) (h2 : SqT K H t2 (wv v.2.1)) (h3 : SqT K H t3 (wv v.2.2.1)) (h4 : SqT K H t4 (wv v.2.2.2.1)) (h5 : SqT K H t5 (wv v.2.2.2.2)) (g1 : SqT K H u1 (wv 7)) (g2 : SqT K H u2 (wv 6)) (g3 : SqT K H u3 (wv 7)) (g4 : SqT K H u4 (wv 7)) (g5 : SqT K H u5 (wv 6)) :
    Paired (RowAt (ItW K) H) ts (brows v) := by
  rw [brows_law hv]
  have row : ∀ {t x y : Addr} {n : Str} {i j : Nat}, H t = some (.tup [.str n, .ref x, .ref y]) → SqT K H x (wv i) → SqT K H y (wv j) → RowAt (ItW K) H t (lrow n (dW i) (dW j)) := fun e a b => ⟨_, _, e, _, _, dp_w a, dp_w b, w_shows _, w_shows _, rfl, rfl⟩
  cases hp with
  | cons e1 hp =>
    cases hp with
    | cons e2 hp =>
      cases hp with
      | cons e3 hp =>
        cases hp with
        | cons e4 hp =>
          cases hp with
          | cons e5 hp =>
            cases hp
            exact .cons (row e1 h1 g1) (.cons (row e2 h2 g2) (.cons (row e3 h3 g3) (.cons (row e4 h4 g4) (.cons (row e5 h5 g5) .nil))))
theorem rows_set {K : PySem.W.Frag} {H : Hp} {s : S8} {ts : List Addr} (hs : s.Ok) (hp : Paired (fun (t : Addr) (r : V × V × V) => H t = some (.tup [r.1, r.2.1, r.2.2])) ts (Lz.rows3 ((fieldsW.map V.str).take 8) (vals8 s ++ [.non]) (vals8 std8))) : Paired (RowAt (ItW K) H) ts (srows s) := by
  rw [srows_law hs]
  have sh : ∀ d ∈ ds8 s, Gu.Shows d := fun d hd => io_shows (ok_ds8 hs d hd)
  have st : ∀ d ∈ ds8 std8, Gu.Shows d := fun d hd => io_shows (ok_ds8 std8_ok d hd)
  have row : ∀ {t : Addr} {n : Str} {x y : V} {d e : PyData}, H t = some (.tup [.str n, x, y]) → Dp K H x d → Dp K H y e → Gu.Shows d → Gu.Shows e → RowAt (ItW K) H t (lrow n d e) := fun h a b c d => ⟨_, _, h, _, _, a, b, c, d, rfl, rfl⟩
  cases hp with
  | cons e1 hp =>
    cases hp with
    | cons e2 hp =>
      cases hp with
      | cons e3 hp =>
        cases hp with
        | cons e4 hp =>
          cases hp with
          | cons e5 hp =>
            cases hp with
            | cons e6 hp =>
              cases hp with
              | cons e7 hp =>
                cases hp with
                | cons e8 hp =>
                  cases hp
                  exact .cons (row e1 (.str _) (.str _) (sh _ (by simp [ds8])) (st _ (by simp [ds8]))) (.cons (row e2 (.bl _) (.bl _) (sh _ (by simp [ds8])) (st _ (by simp [ds8]))) (.cons (row e3 (.int _) (.int _) (sh _ (by simp [ds8])) (st _ (by simp [ds8]))) (.cons (row e4 (.bl _) (.bl _) (sh _ (by simp [ds8])) (st _ (by simp [ds8])))
                    (.cons (row e5 (.bl _) (.bl _) (sh _ (by simp [ds8])) (st _ (by simp [ds8]))) (.cons (row e6 (.str _) (.str _) (sh _ (by simp [ds8])) (st _ (by simp [ds8]))) (.cons (row e7 (.int _) (.int _) (sh _ (by simp [ds8])) (st _ (by simp [ds8]))) (.cons (row e8 (.int _) (.int _) (sh _ (by simp [ds8])) (st _ (by simp [ds8]))) .nil)))))))
/-- a comprehension over a range without a test -/
theorem lc_rangeY {lo : Int} {n v : Nat} {te : TE} {vs : List Nat} {σ : L2.St} {H1 : Hp} {D : Addr} {Qd : Hp → Prop} (Pv : Nat → Hp → Prop) (h0 : Pv 0 (upd H1 D (.lst [])))
    (hs : ∀ i H, i < n → Pv i H → wipe ((wipe σ vs).set v (some (.int (lo + i)))) vs = wipe σ vs ∧ te ((wipe σ vs).set v (some (.int (lo + i)))) H fun y H4 => ∃ acc, H4 D = some (.lst acc) ∧ acc.length < sizeLine ∧ Pv (i + 1) (upd H4 D (.lst (acc ++ [y])))) (hd : ∀ H, Pv n H → Qd H) :
    ∃ W : Nat → Nat → Hp → Prop, (∃ m, W 0 m (upd H1 D (.lst []))) ∧ ∀ i m H, W i m H →
      ((Itr lo n).stop i H ∧ Qd H) ∨ ((Itr lo n).go i H ∧ ∃ Nx : Hp → Prop, (∀ H', Nx H' → ∃ m', m' < m ∧ W (i + 1) m' H') ∧ ∀ x H', (Itr lo n).yld i H x H' → gName v x (wipe σ vs) H' fun σ2 H2 => wipe σ2 vs = wipe σ vs ∧ tYes σ2 H2 fun b H3 =>
        if b = true then te σ2 H3 fun y H4 => ∃ acc, H4 D = some (.lst acc) ∧ acc.length < sizeLine ∧ Nx (upd H4 D (.lst (acc ++ [y]))) else Nx H3) :=
  lc_range (lo := lo) (n := n) Pv h0 (fun i H hi p => ⟨(hs i H hi p).1, iteT (B := Pv (i + 1) H) (hs i H hi p).2⟩) hd
/-- one more item at D -/
theorem grown {H H' : Hp} {b D : Addr} {xs : List V} {x : V} (n : H D = none) (k : SameB b H H') : SameB b H (upd H' D (.lst (xs ++ [x]))) := fun q o hq e => by
  rw [upd_ne (ne_of_none e n)]
  exact k q o hq e
theorem bag_up {H : Hp} {b D : Addr} {o : HO} (h : BagS H b) (n : D ≠ b) : BagS (upd H D o) b := by
  obtain ⟨i, j, e, r⟩ := h
  exact ⟨i, j, by rw [upd_ne n.symm]; exact e, r⟩
theorem inV_int (k : Int) : ∀ ks : List Int, inV (.int k) (ks.map V.int) = decide (k ∈ ks)
  | [] => rfl
  | l :: ks => by
    have ih := inV_int k ks
    unfold inV at ih ⊢
    rw [List.map_cons, List.any_cons, ih]
    have e : eqV (.int l) (.int k) = decide (l = k) := by
      by_cases h : l = k
      · rw [h]; simp [eqV]
      · simp [eqV, h]
    rw [e]
    by_cases h : l = k
    · simp [h]
    · have : ¬ k = l := fun z => h z.symm
      simp [h, this]
theorem flat_ints (ks : List Int) : (ks.map V.int).all flatV = true := by
  rw [List.all_eq_true]
  intro x hx
  obtain ⟨k, _, rfl⟩ := List.mem_map.mp hx
  rfl
theorem snoc_at {α : Type} {xs : List α} {x y : α} {j : Nat} (h : (xs ++ [x])[j]? = some y) : (j = xs.length ∧ y = x) ∨ xs[j]? = some y := by
  rcases Nat.lt_or_ge j xs.length with q | q
  · rw [List.getElem?_append_left q] at h
    exact .inr h
  · rw [List.getElem?_append_right q] at h
    cases e : j - xs.length with
    | zero =>
      rw [e] at h
      exact .inl ⟨by omega, (Option.some.inj h).symm⟩
    | succ n => rw [e] at h; simp at h
end Sc
namespace Sc
open PySem L2
/-! ### calls that are right -/
theorem vals8_inj {s t : S8} (h : vals8 s = vals8 t) : s = t := by
  obtain ⟨a1, a2, a3, a4, a5, a6, a7, a8⟩ := s
  obtain ⟨b1, b2, b3, b4, b5, b6, b7, b8⟩ := t
  simp only [List.cons.injEq, V.str.injEq, V.bl.injEq, V.int.injEq, and_true] at h
  obtain ⟨rfl, rfl, rfl, rfl, rfl, rfl, rfl, rfl⟩ := h
  rfl
theorem dW_inj : ∀ i, i < 8 → ∀ j, j < 8 → dW i = dW j → i = j := by
  intro i hi j hj h
  have e : ways i = ways j := by
    unfold dW at h
    injection h with h
    exact List.map_inj_right (fun x y z => by injection z) |>.mp h
  revert e
  have c : ∀ i, i < 8 → ∀ j, j < 8 → ways i = ways j → i = j := by decide +kernel
  exact c i hi j hj
theorem set_call {K : PySem.W.Frag} {CE CS CB l : Addr} {H : Hp} {s : S8} {x : V} {v : B5} {Q : VK} {E : XK} (e : H l = some (.lst (vals8 s ++ [x]))) (hs : s.Ok) (hx : BkArg K CB H x v) (k : ∀ H' y, Same H H' → H y = none → SetAt K CS CB H' y s v → Q (.ref y) H') : spLSetR K CE CS CB [.ref l] H Q E := by
  have sh : ∀ d ∈ ds8 s, SeqAt.shaped d = true := fun d hd => io_shaped (ok_ds8 hs d hd)
  have g1 : DS K H (.str s.copies) (.str s.copies) := ⟨.str _, sh _ (by simp [ds8])⟩
  have g2 : DS K H (.bl s.cached) (.bool s.cached) := ⟨.bl _, sh _ (by simp [ds8])⟩
  have g3 : DS K H (.int s.batch) (.int s.batch) := ⟨.int _, sh _ (by simp [ds8])⟩
  have g4 : DS K H (.bl s.early) (.bool s.early) := ⟨.bl _, sh _ (by simp [ds8])⟩
  have g5 : DS K H (.bl s.drain) (.bool s.drain) := ⟨.bl _, sh _ (by simp [ds8])⟩
  have g6 : DS K H (.str s.policy) (.str s.policy) := ⟨.str _, sh _ (by simp [ds8])⟩
  have g7 : DS K H (.int s.groups) (.int s.groups) := ⟨.int _, sh _ (by simp [ds8])⟩
  have g8 : DS K H (.int s.tables) (.int s.tables) := ⟨.int _, sh _ (by simp [ds8])⟩
  refine ⟨l, _, _, _, _, _, _, _, _, x, _, _, _, _, _, _, _, _, true, v, rfl, e, g1, g2, g3, g4, g5, g6, g7, g8, .inl ⟨hx, rfl⟩, fun n hn => ?_, fun s' hs' es _ H' y sm ny hy => ?_⟩
  · rw [good_rows hs rfl g1 g2 g3 g4 g5 g6 g7 g8] at hn
    cases hn
  · rw [← vals8_inj es] at hy
    exact k H' y sm ny hy
theorem book_call {K : PySem.W.Frag} {CE CB q : Addr} {H : Hp} {v : B5} {Q : VK} {E : XK} (h : DutAt K H q v) (k : ∀ H' y, Same H H' → H y = none → BookAt K CB H' y v → Q (.ref y) H') : spLBookR K CE CB [.ref q] H Q E := by
  obtain ⟨t1, t2, t3, t4, t5, e, o, h1, h2, h3, h4, h5⟩ := h
  refine ⟨q, _, _, _, _, _, _, _, _, _, _, rfl, e, ⟨dp_w h1, shaped_w _⟩, ⟨dp_w h2, shaped_w _⟩, ⟨dp_w h3, shaped_w _⟩, ⟨dp_w h4, shaped_w _⟩, ⟨dp_w h5, shaped_w _⟩, fun n hn => ?_, fun w ow e1 e2 e3 e4 e5 H' y sm ny hy => ?_⟩
  · rw [good_rowsB o] at hn
    cases hn
  · obtain ⟨o1, o2, o3, o4, o5⟩ := o
    obtain ⟨p1, p2, p3, p4, p5⟩ := ow
    obtain ⟨w1, w2, w3, w4, w5⟩ := w
    obtain ⟨v1, v2, v3, v4, v5⟩ := v
    cases dW_inj _ o1 _ p1 e1
    cases dW_inj _ o2 _ p2 e2
    cases dW_inj _ o3 _ p3 e3
    cases dW_inj _ o4 _ p4 e4
    cases dW_inj _ o5 _ p5 e5
    exact k H' y sm ny hy
/-- a list of five masks, item by item -/
theorem dut_at {K : PySem.W.Frag} {H : Hp} {q : Addr} {v : B5} (h : DutAt K H q v) : ∃ ts : List Addr, H q = some (.lst (ts.map V.ref)) ∧ ∀ j, j < 5 → ∃ t, ts[j]? = some t ∧ SqT K H t (wv (mask v j)) ∧ mask v j < 8 := by
  obtain ⟨t1, t2, t3, t4, t5, e, o, h1, h2, h3, h4, h5⟩ := h
  refine ⟨[t1, t2, t3, t4, t5], e, fun j hj => ?_⟩
  have c : j = 0 ∨ j = 1 ∨ j = 2 ∨ j = 3 ∨ j = 4 := by omega
  rcases c with rfl | rfl | rfl | rfl | rfl
  · exact ⟨t1, rfl, h1, mask_lt o 0⟩
  · exact ⟨t2, rfl, h2, mask_lt o 1⟩
  · exact ⟨t3, rfl, h3, mask_lt o 2⟩
  · exact ⟨t4, rfl, h4, mask_lt o 3⟩
  · exact ⟨t5, rfl, h5, mask_lt o 4⟩
theorem dut_of {K : PySem.W.Frag} {H : Hp} {q : Addr} {ts : List Addr} {ms : List Nat} (p : Paired (fun (t : Addr) (m : Nat) => m < 8 ∧ SqT K H t (wv m)) ts ms) (hl : ts.length = 5) (e : H q = some (.lst (ts.map V.ref))) : ∃ v, DutAt K H q v := by
  cases p with
  | nil => simp at hl
  | cons h1 p =>
    cases p with
    | nil => simp at hl
    | cons h2 p =>
      cases p with
      | nil => simp at hl
      | cons h3 p =>
        cases p with
        | nil => simp at hl
        | cons h4 p =>
          cases p with
          | nil => simp at hl
          | cons h5 p =>
            cases p with
            | nil => exact ⟨(_, _, _, _, _), _, _, _, _, _, e, ⟨h1.1, h2.1, h3.1, h4.1, h5.1⟩, h1.2, h2.2, h3.2, h4.2, h5.2⟩
            | cons _ _ => simp at hl
theorem sqT_bd {K : PySem.W.Frag} {b D t : Addr} {H H' : Hp} {xs ys : List V} (h : SqT K H t xs) (hb : BagS H b) (hD : H D = some (.lst ys)) (k : ∀ q o, q ≠ b → q ≠ D → H q = some o → H' q = some o) : SqT K H' t xs := by
  obtain ⟨i, j, hb, _⟩ := hb
  rcases h with (h | ⟨o, h⟩) | h
  · exact .inl (.inl (k _ _ (fun z => by rw [z, hb] at h; cases h) (fun z => by rw [z, hD] at h; cases h) h))
  · exact .inl (.inr ⟨o, k _ _ (fun z => by rw [z, hb] at h; cases h) (fun z => by rw [z, hD] at h; cases h) h⟩)
  · exact .inr h
theorem paired_imp {α β : Type} {F G : α → β → Prop} {xs : List α} {ys : List β} (p : Paired F xs ys) (h : ∀ x y, F x y → G x y) : Paired G xs ys := by
  induction p with
  | nil => exact .nil
  | cons r _ ih => exact .cons (h _ _ r) ih
theorem more_len (W T : Str) : (Txt.join ", " (moreB W T)).length ≤ W.length + T.length + 20 ∧ (((moreB W T).map (·.length)).sum ≤ W.length + T.length + 20 ∧ (moreB W T).length ≤ 2) := by
  have e5 : (("book=" : Str)).length = 5 := by decide +kernel
  have e2 : ((", " : Str)).length = 2 := by decide +kernel
  have e0 : (Str.empty : Str).length = 0 := rfl
  rw [TL.join_eq]
  unfold moreB moreA
  by_cases h1 : W = "" <;> by_cases h2 : T = "Book()"
  · rw [if_pos h1, if_pos h2]
    refine ⟨?_, ?_, ?_⟩ <;> simp [Str.join, e0]
  · rw [if_pos h1, if_neg h2]
    refine ⟨?_, ?_, ?_⟩ <;> simp [Str.join, strLen_append, e5] <;> omega
  · rw [if_neg h1, if_pos h2]
    refine ⟨?_, ?_, ?_⟩ <;> simp [Str.join] <;> omega
  · rw [if_neg h1, if_neg h2]
    refine ⟨?_, ?_, ?_⟩ <;> simp [Str.join, strLen_append, e5, e2] <;> omega
theorem book_ins {K : PySem.W.Frag} {CB : Addr} {H : Hp} {y : Addr} {v : B5} (h : BookAt K CB H y v) : ∃ dx fs, H y = some (.ins CB dx fs) := by
  obtain ⟨dx, _, _, _, _, _, e, _⟩ := h
  exact ⟨_, _, e⟩
theorem set_ins {K : PySem.W.Frag} {CS CB : Addr} {H : Hp} {y : Addr} {s : S8} {v : B5} (h : SetAt K CS CB H y s v) : ∃ dx fs, H y = some (.ins CS dx fs) := by
  obtain ⟨dx, _, e, _⟩ := h
  exact ⟨_, _, e⟩
theorem ne_self (t : Str) : (!decide (V.str t = V.str t)) = false := by simp
theorem iteE {c : Bool} {A B : Prop} (h : c = false) (b : B) : if c = true then A else B := by
  subst h
  exact iteF b
end Sc
namespace Sc
open PySem L2 LamX
/-! ### the law -/
abbrev NL : List Str := ["_law_script", "_law_fields", "_law_duties", "_law_standard", "_law_first", "_law_at", "_law_bag_here", "_law_turn", "_law_spots", "_law_right_here", "_law_text", "_law_words_here", "_law_more", "_law_made", "_law_bent", "_law_told", "_law_k"]
structure Mth (P : Program) (w : World) (K : PySem.W.Frag) (mg : Str → Option Value) (base : Heap) (CX : CXT) (k : Nat) (x : Str) (ps : List Str) (sp : Sp) (f : Addr) (fd : FuncData) : Prop where
  ok : FnOk P w K mg base CX k f fd ps sp
  df : Def K mg x f fd ps
/-- list and zip are the built-in ones -/
structure TZ (mg : Str → Option Value) : Prop extends TB mg where
  list : mg "list" = none
  zip : mg "zip" = none
section
variable {P : Program} {w : World} {K : PySem.W.Frag} {mg : Str → Option Value} {base : Heap} {CE CS CB CW CV : Addr}
theorem scLaw : FnScope NL ["_law_script"] (defScope s_law) := ⟨rfl, rfl, rfl, by decide +kernel, rfl, by decide +kernel, by decide +kernel⟩
theorem ok_law {f fB fT fR fO fD fW fS fK fX fPB fPS fSf pSf g fE cc cda cL pT : Addr} {fdB fdT fdR fdO fdD fdW fdS fdK fdX fdPB fdPS fdSf : FuncData} {dV kV doc pm ct oc gdV gkV gdoc gpm gct goc gcd edoc epm ect : Value} {an od gan god : Option Addr} {osl gosl : Array (Option Value)}
    (lk : K.lookup f = some ⟨oc, od, .func (PySem.W.fnOf "law" "law" (defArgs s_law) (defBody s_law) (defScope s_law) dV kV doc pm an (.ref cL) ct), osl⟩) (hcd : PySem.W.codeIn K (.ref cL) "law" = true) (hbd : ∀ (s : Shared) (u : Value), BindsTo s (PySem.W.fnOf "law" "law" (defArgs s_law) (defBody s_law) (defScope s_law) dV kV doc pm an (.ref cL) ct) ⟨[u], []⟩ [("_law_script", u)]) (TBx : TabB base mg cL pT)
    (B : TZ mg) (U : TSt K mg CS) (T : TBk K mg CB)
    (YB : Mth P w K mg base C8.CX0 1 "_law_bag" ["_law_script", "_law_at"] (spBag2 K) fB fdB) (YT : Mth P w K mg base C8.CX0 1 "_law_take" ["_law_bag_here", "_law_many"] spTake2 fT fdT) (YR : Mth P w K mg base C8.CX0 3 "_law_right" ["_law_bag_here"] (spRight K) fR fdR)
    (YO : Mth P w K mg base C8.CX0 3 "_law_odd" ["_law_bag_here", "_law_at"] (spOdd K) fO fdO) (YD : Mth P w K mg base C8.CX0 3 "_law_odd_duty" ["_law_bag_here"] (spOddD K) fD fdD) (YW : Mth P w K mg base C8.CX0 1 "_law_ways" ["_law_number"] spWays fW fdW)
    (YS : Mth P w K mg base (L2.CX P w) 7 "_law_setting" ["_law_told"] (spLSetR K CE CS CB) fS fdS) (YK : Mth P w K mg base (L2.CX P w) 6 "_law_book" ["_law_told"] (spLBookR K CE CB) fK fdK)
    (YX : Gu.FnG P w K mg base C8.CX0 2 fX fdX ["_law_pairs"] (spTold (ItW K))) (YXD : Def K mg "_law_words" fX fdX ["_law_pairs"])
    (YPB : Gu.FnG P w K mg base C8.CX0 3 fPB fdPB ["self"] (spBRepr K CB)) (bPB : Binds K fdPB ["self"] []) (sPB : PySem.W.findIn K (.ref CB) "__repr__" = some (some (.ref fPB))) (iPB : PySem.W.isFn K (.ref fPB) = true)
    (YPS : Gu.FnG P w K mg base C8.CX0 6 fPS fdPS ["self"] (spSRepr K CS CB)) (bPS : Binds K fdPS ["self"] []) (sPS : PySem.W.findIn K (.ref CS) "__repr__" = some (some (.ref fPS))) (iPS : PySem.W.isFn K (.ref fPS) = true)
    (GSf : FnOk P w K mg base C8.CX0 1 fSf fdSf ["self"] (spSafe K CS CB)) (bSf : Binds K fdSf ["self"] []) (PSf : PropOf K CS "safe" pSf fSf)
    (N : TE' P K mg CE fE cc cda edoc epm ect) (XFb : XF K mg CE CW CV)
    (mT : mg "_law_field" = some (.ref g)) (kT : PySem.W.keepIn K (.ref g) = true) (lT : K.lookup g = some ⟨goc, god, .func (PySem.W.fnOf "_law_field" "_law_field" (defArgs s__law_field) (defBody s__law_field) (defScope s__law_field) gdV gkV gdoc gpm gan gcd gct), gosl⟩) (cT : PySem.W.codeIn K gcd "_law_field" = true)
    (bT : L2.Binds K (PySem.W.fnOf "_law_field" "_law_field" (defArgs s__law_field) (defBody s__law_field) (defScope s__law_field) gdV gkV gdoc gpm gan gcd gct) ["_law_call"] [])
    {s : Shared} {H : Hp} {a : Addr} {ns : List Int} (hl : ns.length ≤ 63) (e0 : Env0 P w K mg base callerA [] s H) (hP : H pT = some (.tbl #[])) (hS : SqL K H a (ns.map V.int)) :
    codeAny (model P w) callerA (.call (.ref f) ⟨[.ref a], []⟩) (CR C8.CX0 [] P w H s (fun v _ => v = .bl true) fun _ _ _ => False) s := by
  refine LamX.run_ofS (k := 9) (N := NL) (ps := ["_law_script"]) (us := [.ref a]) (vs := [.ref a]) lk hcd scLaw ⟨rfl, by decide, by decide⟩ e0 (hbd s (.ref a)) (.cons rfl .nil) rfl fun hr => ?_
  have hG : (callerA.deeper (PyProof.Rows.envOfC "law" (defScope s_law) s.heap.objs.size f (.ref cL))).guards = some [] := rfl
  have hr_YB : Room 1 _ := hr.mono (show 1 ≤ 9 by decide)
  have hr_YT : Room 1 _ := hr.mono (show 1 ≤ 9 by decide)
  have hr_YW : Room 1 _ := hr.mono (show 1 ≤ 9 by decide)
  have hr_YR : Room 3 _ := hr.mono (show 3 ≤ 9 by decide)
  have hr_YO : Room 3 _ := hr.mono (show 3 ≤ 9 by decide)
  have hr_YD : Room 3 _ := hr.mono (show 3 ≤ 9 by decide)
  have hr_YS : Room 7 _ := hr.mono (show 7 ≤ 9 by decide)
  have hr_YK : Room 6 _ := hr.mono (show 6 ≤ 9 by decide)
  have hr_YX : Room 2 _ := hr.mono (show 2 ≤ 9 by decide)
  have hr_F2 : Room 2 _ := hr.mono (show 2 ≤ 9 by decide)
  have hr_PB : Room 4 _ := hr.mono (show 4 ≤ 9 by decide)
  have hr_PS : Room 7 _ := hr.mono (show 7 ≤ 9 by decide)
  have hr_L6 : Room 8 _ := hr.mono (show 8 ≤ 9 by decide)
  have hr_L7 : Room 9 _ := hr
  have G0 : ∀ q, GivesTo (cxOf C8.CX0 P w K mg base NL "law" (defScope s_law) f (.ref cL) callerA [] s H fun _ _ _ => False).nox NFd "_law_field" (defScope s__law_field) g gcd (defBody s__law_field) "_law_call" q (TFieldR CE) := fun q => field_run N XFb
  suffices hh : ∃ t, PSs (cxOf C8.CX0 P w K mg base NL "law" (defScope s_law) f (.ref cL) callerA [] s H fun _ _ _ => False).nox (defBody s_law) t ∧ t { nx := fun x H' => (fun v (_ : Hp) => v = V.bl true) .non H', rt := fun v _ => v = V.bl true } (L2.start NL [.ref a]) H by
    obtain ⟨t, h1, h2⟩ := hh
    exact ⟨t, h1.nox, h2⟩
  have hS0 := Scr0.of hS
  have hT0 : Tabs [(pT, QL)] H := fun p hp => by
    rw [List.mem_singleton.mp hp]
    exact .nil hP
  refine ⟨_, (pss_cons (ps_set (i := 1) scLaw.nd rfl (Or.inl rfl) (pe_lst (pa_cons pe_str (pa_cons pe_str (pa_cons pe_str (pa_cons pe_str (pa_cons pe_str (pa_cons pe_str (pa_cons pe_str (pa_cons pe_str (pa_cons pe_str pa_nil)))))))))))
        (pss_cons (ps_set (i := 2) scLaw.nd rfl (Or.inl rfl) (pe_lst (pa_cons pe_str (pa_cons pe_str (pa_cons pe_str (pa_cons pe_str (pa_cons pe_str pa_nil)))))))
        (pss_cons (ps_set (i := 3) scLaw.nd rfl (Or.inr rfl) (pe_lst (pa_cons (pe_call YW.ok hr_YW (by rfl) YW.df.at_ YW.df.kp YW.df.bd .nil pass0 (pa_cons pe_int pa_nil)) (pa_cons (pe_call YW.ok hr_YW (by rfl) YW.df.at_ YW.df.kp YW.df.bd .nil pass0 (pa_cons pe_int pa_nil)) (pa_cons (pe_call YW.ok hr_YW (by rfl) YW.df.at_ YW.df.kp YW.df.bd .nil pass0 (pa_cons pe_int pa_nil)) (pa_cons (pe_call YW.ok hr_YW (by rfl) YW.df.at_ YW.df.kp YW.df.bd .nil pass0 (pa_cons pe_int pa_nil)) (pa_cons (pe_call YW.ok hr_YW (by rfl) YW.df.at_ YW.df.kp YW.df.bd .nil pass0 (pa_cons pe_int pa_nil)) pa_nil)))))))
        (pss_cons (ps_set (i := 4) scLaw.nd rfl (Or.inl rfl) (pe_lst (pa_cons pe_str (pa_cons pe_bl (pa_cons pe_int (pa_cons pe_bl (pa_cons pe_bl (pa_cons pe_str (pa_cons pe_int (pa_cons pe_int pa_nil))))))))))
        (pss_cons (ps_for PassesOwn.never rfl (pi_range1 (by rfl) B.range (pa_cons (pe_callB (call_max2 rfl) (by rfl) B.max (by decide +kernel) (pa_cons pe_int (pa_cons (pe_callB (call_min2 rfl) (by rfl) B.min (by decide +kernel) (pa_cons pe_int (pa_cons (pe_callB call_len_seq (by rfl) B.len PySem.boot_len (pa_cons (pv 0) pa_nil)) pa_nil))) pa_nil))) pa_nil)) (pg_name (i := 5) scLaw.nd rfl (Or.inl rfl)) (pss_cons (ps_set (i := 6) scLaw.nd rfl (Or.inr rfl) (pe_call YB.ok hr_YB (by rfl) YB.df.at_ YB.df.kp YB.df.bd .nil pass0 (pa_cons (pv 0) (pa_cons (pv 5) pa_nil))))
        (pss_one (ps_for PassesOwn.never rfl (pi_range1 (by rfl) B.range (pa_cons pe_int pa_nil)) (pg_name (i := 7) scLaw.nd rfl (Or.inl rfl)) (pss_cons (ps_asg (pe_tup (pa_cons (pe_call YR.ok hr_YR (by rfl) YR.df.at_ YR.df.kp YR.df.bd .nil pass0 (pa_cons (pv 6) pa_nil)) (pa_cons (pe_lc (own := [("_law_k", 16)]) (g := gName 16) (tt := tYes) rfl scLaw.nd (pi_range1 (by rfl) B.range (pa_cons (pe_op op_add pe_int (pe_call YT.ok hr_YT (by rfl) YT.df.at_ YT.df.kp YT.df.bd .nil pass0 (pa_cons (pv 6) (pa_cons pe_int pa_nil)))) pa_nil)) (blkOk_by (N := NL) (sc := defScope s_law) (by decide +kernel)) (fun _ _ _ _ _ => (pg_name (i := 16) scLaw.nd rfl (Or.inl rfl))) (fun _ _ _ _ _ => pts_nil) (fun _ _ _ _ _ => (pe_call YT.ok hr_YT (by rfl) YT.df.at_ YT.df.kp YT.df.bd .nil pass0 (pa_cons (pv 6) (pa_cons pe_int pa_nil))))) pa_nil))) (pg_tup rfl (pgs_cons (pg_name (i := 15) scLaw.nd rfl (Or.inr rfl)) (pgs_cons (pg_name (i := 8) scLaw.nd rfl (Or.inr rfl)) pgs_nil))))
        (pss_cons (ps_set (i := 14) scLaw.nd rfl (Or.inr rfl) (pe_lc (own := [("_law_k", 16)]) (g := gName 16) (tt := tYes) rfl scLaw.nd (pi_range1 (by rfl) B.range (pa_cons pe_int pa_nil)) (blkOk_by (N := NL) (sc := defScope s_law) (by decide +kernel)) (fun _ _ _ _ _ => (pg_name (i := 16) scLaw.nd rfl (Or.inl rfl))) (fun _ _ _ _ _ => pts_nil) (fun _ _ _ _ _ => (pe_ifExp (pt_cmpR (r := rIn K false) op_in_seq (pv 16) (pv 8) (by rfl)) (pe_call YO.ok hr_YO (by rfl) YO.df.at_ YO.df.kp YO.df.bd .nil pass0 (pa_cons (pv 6) (pa_cons (pv 16) pa_nil))) (pe_ix (r := rIxL K) ix_list (pv 15) (pv 16) (fun _ _ => rfl))))))
        (pss_cons (ps_if (pt_cmpR op_ne (pe_lamcall (T := [(pT, QL)]) (k := 7) (c := cL) (t := fun E => tCall (spLSetR K CE CS CB) [] E (tCons (tVar 14) tNil)) rfl mT kT lT cT bT scField rfl (Or.inl rfl) (G0 _) TBx rfl List.mem_cons_self (fun p hp _ => by rw [List.mem_singleton.mp hp]; rfl) hr_L7 (lamS_by (sc := defScope s_law) (by decide +kernel)) rfl (fun _ _ _ _ _ => rfl) (fun A' outer' s' H' E' f' c' hr' => pe_call (E := E') YS.ok hr' (by rfl) YS.df.at_ YS.df.kp YS.df.bd .nil (passes_call (takes_of rfl rfl rfl rfl) fun _ _ _ _ z => z) (pa_cons (pv 14) pa_nil))) (pe_ix ix_list (pv 1) (pe_callB (cr_min rfl) (by rfl) B.min (by decide +kernel) (pa_cons (pv 8) pa_nil)) (fun _ _ => rfl)) (nomark _)) (pss_one (ps_ret pe_bl)) pss_nil)
        (pss_cons (ps_if (pt_cmpR op_notN (pe_lamcall (T := [(pT, QL)]) (k := 7) (c := cL) (t := fun E => tCall (spLSetR K CE CS CB) [] E (tCons (tVar 15) tNil)) rfl mT kT lT cT bT scField rfl (Or.inl rfl) (G0 _) TBx rfl List.mem_cons_self (fun p hp _ => by rw [List.mem_singleton.mp hp]; rfl) hr_L7 (lamS_by (sc := defScope s_law) (by decide +kernel)) rfl (fun _ _ _ _ _ => rfl) (fun A' outer' s' H' E' f' c' hr' => pe_call (E := E') YS.ok hr' (by rfl) YS.df.at_ YS.df.kp YS.df.bd .nil (passes_call (takes_of rfl rfl rfl rfl) fun _ _ _ _ z => z) (pa_cons (pv 15) pa_nil))) pe_non (nomark _)) (pss_one (ps_ret pe_bl)) pss_nil)
        (pss_cons (ps_set (i := 9) scLaw.nd rfl (Or.inr rfl) (pe_lc (own := [("_law_k", 16)]) (g := gName 16) (tt := tYes) rfl scLaw.nd (pi_range1 (by rfl) B.range (pa_cons pe_int pa_nil)) (blkOk_by (N := NL) (sc := defScope s_law) (by decide +kernel)) (fun _ _ _ _ _ => (pg_name (i := 16) scLaw.nd rfl (Or.inl rfl))) (fun _ _ _ _ _ => pts_nil) (fun _ _ _ _ _ => (pe_ifExp (pt_cmpR op_eq (pe_call YT.ok hr_YT (by rfl) YT.df.at_ YT.df.kp YT.df.bd .nil pass0 (pa_cons (pv 6) (pa_cons pe_int pa_nil))) pe_int (nomark _)) (pe_call YW.ok hr_YW (by rfl) YW.df.at_ YW.df.kp YW.df.bd .nil pass0 (pa_cons (pe_call YT.ok hr_YT (by rfl) YT.df.at_ YT.df.kp YT.df.bd .nil pass0 (pa_cons (pv 6) (pa_cons pe_int pa_nil))) pa_nil)) (pe_ix (r := rIxL K) ix_list (pv 3) (pv 16) (fun _ _ => rfl))))))
        (pss_cons (ps_set (i := 8) scLaw.nd rfl (Or.inr rfl) (pe_lc (own := [("_law_k", 16)]) (g := gName 16) (tt := tYes) rfl scLaw.nd (pi_range1 (by rfl) B.range (pa_cons (pe_op op_add pe_int (pe_call YT.ok hr_YT (by rfl) YT.df.at_ YT.df.kp YT.df.bd .nil pass0 (pa_cons (pv 6) (pa_cons pe_int pa_nil)))) pa_nil)) (blkOk_by (N := NL) (sc := defScope s_law) (by decide +kernel)) (fun _ _ _ _ _ => (pg_name (i := 16) scLaw.nd rfl (Or.inl rfl))) (fun _ _ _ _ _ => pts_nil) (fun _ _ _ _ _ => (pe_call YT.ok hr_YT (by rfl) YT.df.at_ YT.df.kp YT.df.bd .nil pass0 (pa_cons (pv 6) (pa_cons pe_int pa_nil))))))
        (pss_cons (ps_set (i := 14) scLaw.nd rfl (Or.inr rfl) (pe_lc (own := [("_law_k", 16)]) (g := gName 16) (tt := tYes) rfl scLaw.nd (pi_range1 (by rfl) B.range (pa_cons pe_int pa_nil)) (blkOk_by (N := NL) (sc := defScope s_law) (by decide +kernel)) (fun _ _ _ _ _ => (pg_name (i := 16) scLaw.nd rfl (Or.inl rfl))) (fun _ _ _ _ _ => pts_nil) (fun _ _ _ _ _ => (pe_ifExp (pt_cmpR (r := rIn K false) op_in_seq (pv 16) (pv 8) (by rfl)) (pe_call YD.ok hr_YD (by rfl) YD.df.at_ YD.df.kp YD.df.bd .nil pass0 (pa_cons (pv 6) pa_nil)) (pe_ix (r := rIxL K) ix_list (pv 9) (pv 16) (fun _ _ => rfl))))))
        (pss_cons (ps_if (pt_cmpR op_ne (pe_lamcall (T := [(pT, QL)]) (k := 6) (c := cL) (t := fun E => tCall (spLBookR K CE CB) [] E (tCons (tVar 14) tNil)) rfl mT kT lT cT bT scField rfl (Or.inl rfl) (G0 _) TBx rfl List.mem_cons_self (fun p hp _ => by rw [List.mem_singleton.mp hp]; rfl) hr_L6 (lamS_by (sc := defScope s_law) (by decide +kernel)) rfl (fun _ _ _ _ _ => rfl) (fun A' outer' s' H' E' f' c' hr' => pe_call (E := E') YK.ok hr' (by rfl) YK.df.at_ YK.df.kp YK.df.bd .nil (passes_call (takes_of rfl rfl rfl rfl) fun _ _ _ _ z => z) (pa_cons (pv 14) pa_nil))) (pe_ix ix_list (pv 2) (pe_callB (cr_min rfl) (by rfl) B.min (by decide +kernel) (pa_cons (pv 8) pa_nil)) (fun _ _ => rfl)) (nomark _)) (pss_one (ps_ret pe_bl)) pss_nil)
        (pss_cons (ps_set (i := 10) scLaw.nd rfl (Or.inl rfl) (pe_op op_add_str (pe_op op_add_str pe_str (Gu.pe_callG YX hG hr_YX (by rfl) YXD.at_ YXD.kp YXD.bd pass0 (pa_cons (Lz.pe_zip3 rfl (pa_cons (pv 2) (pa_cons (pv 9) (pa_cons (pv 3) pa_nil))) (by rfl) B.list (by rfl) B.zip) pa_nil))) pe_str))
        (pss_cons (ps_set (i := 11) scLaw.nd rfl (Or.inl rfl) (Gu.pe_callG YX hG hr_YX (by rfl) YXD.at_ YXD.kp YXD.bd pass0 (pa_cons (Lz.pe_zip3 rfl (pa_cons (pe_slice sl_list (pv 1) po_none (po_some pe_int)) (pa_cons (pv 15) (pa_cons (pv 4) pa_nil))) (by rfl) B.list (by rfl) B.zip) pa_nil)))
        (C8.pss_cut (ps_set (i := 12) scLaw.nd rfl (Or.inl rfl) (pe_ifExp (pt_cmpR op_ne (pv 11) pe_str (nomark _)) (pe_lst (pa_cons (pv 11) pa_nil)) (pe_lst pa_nil)))
        (C8.pss_cut (ps_set (i := 12) scLaw.nd rfl (Or.inl rfl) (pe_ifExp (pt_cmpR op_ne (pv 10) pe_str (nomark _)) (pe_op op_cat (pv 12) (pe_lst (pa_cons (pe_op op_add_str pe_str (pv 10)) pa_nil))) (pv 12)))
        (pss_cons (ps_set (i := 13) scLaw.nd rfl (Or.inl rfl) (pe_call (E := C8.E0) YS.ok hr_YS (by rfl) YS.df.at_ YS.df.kp YS.df.bd .nil passF (pa_cons (pe_op op_cat (pe_slice sl_list (pv 15) po_none (po_some pe_int)) (pe_lst (pa_cons (pe_call (E := C8.E0) YK.ok hr_YK (by rfl) YK.df.at_ YK.df.kp YK.df.bd .nil passF (pa_cons (pv 9) pa_nil)) pa_nil))) pa_nil)))
        (pss_cons (ps_if (PW.pt (pw_or (pt_cmpR op_ne (pe_callB (Gu.call_reprOG YPB hG bPB pass0 sPB iPB hr_PB) (by rfl) B.repr (by decide +kernel) (pa_cons (pe_call (E := C8.E0) YK.ok hr_YK (by rfl) YK.df.at_ YK.df.kp YK.df.bd .nil passF (pa_cons (pv 9) pa_nil)) pa_nil)) (pv 10) (nomark _)) (pw_or1 (pt_cmpR op_ne (pe_callB (Gu.call_reprOG YPS hG bPS pass0 sPS iPS hr_PS) (by rfl) B.repr (by decide +kernel) (pa_cons (pe_call (E := C8.E0) YS.ok hr_YS (by rfl) YS.df.at_ YS.df.kp YS.df.bd .nil passF (pa_cons (pv 15) pa_nil)) pa_nil)) (pe_op op_add_str (pe_op op_add_str pe_str (pv 11)) pe_str) (nomark _))))) (pss_one (ps_ret pe_bl)) pss_nil)
        (pss_cons (ps_if (pt_cmpR op_ne (pe_callB (Gu.call_reprOG YPS hG bPS pass0 sPS iPS hr_PS) (by rfl) B.repr (by decide +kernel) (pa_cons (pv 13) pa_nil)) (pe_op op_add_str (pe_op op_add_str pe_str (pe_join pe_str (pv 12))) pe_str) (nomark _)) (pss_one (ps_ret pe_bl)) pss_nil)
        (pss_one (ps_if (pt_cmpR op_ne (pe_callB Gu.call_reprB (by rfl) B.repr (by decide +kernel) (pa_cons (pe_prop (pv 13) U.cl PSf GSf hr_F2 bSf .nil pass0 rfl) pa_nil)) (pe_callB Gu.call_reprB (by rfl) B.repr (by decide +kernel) (pa_cons (pe_and (pe_ix ix_list (pv 15) pe_int (fun _ _ => rfl)) (pe_one (pe_or (pe_not (pe_ix ix_list (pv 15) pe_int (fun _ _ => rfl))) (pe_one (pe_cmpR op_eq (pe_ix ix_list (pv 15) pe_int (fun _ _ => rfl)) pe_int (nomark _)))))) pa_nil)) (nomark _)) (pss_one (ps_ret pe_bl)) pss_nil)))))))))))))))))))))
        (pss_one (ps_ret pe_bl))))))), ?_⟩
  refine ⟨(by show 9 ≤ sizeLine; decide), fun lF nF => ?_⟩
  generalize hH : upd _ lF _ = H1
  have k1 : Same H H1 := by rw [← hH]; exact put_same nF
  have fF : H1 lF = some (.lst (fieldsW.map V.str)) := by rw [← hH]; exact upd_same
  clear hH
  refine ⟨(by show 5 ≤ sizeLine; decide), fun lD nD => ?_⟩
  generalize hH : upd _ lD _ = H2
  have k2 : Same H1 H2 := by rw [← hH]; exact put_same nD
  have fD' : H2 lD = some (.lst (dutiesW.map V.str)) := by rw [← hH]; exact upd_same
  clear hH
  refine ⟨7, rfl, by decide, by decide, fun H3 t1 s3 n1 e1 => ⟨6, rfl, by decide, by decide, fun H4 t2 s4 n2 e2 => ⟨7, rfl, by decide, by decide, fun H5 t3 s5 n3 e3 => ⟨7, rfl, by decide, by decide, fun H6 t4 s6 n4 e4 => ⟨6, rfl, by decide, by decide, fun H7 t5 s7 n5 e5 => ⟨(by show 5 ≤ sizeLine; decide), fun lW nW => ?_⟩⟩⟩⟩⟩⟩
  generalize hH : upd _ lW _ = H8
  have k8 : Same H7 H8 := by rw [← hH]; exact put_same nW
  have wW : H8 lW = some (.lst [.ref t1, .ref t2, .ref t3, .ref t4, .ref t5]) := by rw [← hH]; exact upd_same
  clear hH
  have dW8 : DutAt K H8 lW std5 := ⟨t1, t2, t3, t4, t5, wW, ok_std, .inl (.inl (k8 _ _ (s7 _ _ (s6 _ _ (s5 _ _ (s4 _ _ e1)))))), .inl (.inl (k8 _ _ (s7 _ _ (s6 _ _ (s5 _ _ e2))))), .inl (.inl (k8 _ _ (s7 _ _ (s6 _ _ e3)))), .inl (.inl (k8 _ _ (s7 _ _ e4))), .inl (.inl (k8 _ _ e5))⟩
  have k28 : Same H2 H8 := ((((s3.trans s4).trans s5).trans s6).trans s7).trans k8
  refine ⟨(by show 8 ≤ sizeLine; decide), fun lS nS => ?_⟩
  generalize hH : upd _ lS _ = H9
  have k9 : Same H8 H9 := by rw [← hH]; exact put_same nS
  have fS' : H9 lS = some (.lst (vals8 std8)) := by rw [← hH]; exact upd_same
  clear hH
  have k09 : Same H H9 := ((k1.trans k2).trans k28).trans k9
  have fx : Fx K pT lF lD lW lS H9 := ⟨(k2.trans (k28.trans k9)) _ _ fF, (k28.trans k9) _ _ fD', dW8.same k9, fS', hT0.ext k09⟩
  have hS9 := hS0.same k09
  clear k09 k9 k28 k8 k2 k1 dW8 wW e1 e2 e3 e4 e5 n1 n2 n3 n4 n5 s3 s4 s5 s6 s7 nF nD nW nS fF fD' fS'
  refine ⟨_, rfl, a, _, rfl, .inl hS9.sq, _, _, rfl, _, _, rfl, _, rfl, ?_⟩
  have hJ : ∀ n : Int, 0 ≤ n → n ≤ 63 → 2 ≤ (if (if n < 5 then n else 5) > 2 then (if n < 5 then n else 5) else 2) ∧ (if (if n < 5 then n else 5) > 2 then (if n < 5 then n else 5) else 2) ≤ 63 := fun n h0 h1 => by
    by_cases q : n < 5
    · rw [if_pos q]
      by_cases z : n > 2
      · rw [if_pos z]; omega
      · rw [if_neg z]; omega
    · rw [if_neg q]
      decide
  have hJ2 := hJ ((ns.map V.int).length : Int) (by omega) (by rw [List.length_map]; omega)
  generalize (if (if ((ns.map V.int).length : Int) < 5 then ((ns.map V.int).length : Int) else 5) > 2 then (if ((ns.map V.int).length : Int) < 5 then ((ns.map V.int).length : Int) else 5) else 2) = Jn at hJ2 ⊢
  obtain ⟨J0, J1⟩ := hJ2
  refine ⟨by omega, by omega, for_range (lo := 0) (n := Jn.toNat) (fun i σ H' => ∃ (v5 v6 v7 v8 v9 v10 v11 v12 v13 v14 v15 v16 : Option V), σ = [some (.ref a), some (.ref lF), some (.ref lD), some (.ref lW), some (.ref lS), v5, v6, v7, v8, v9, v10, v11, v12, v13, v14, v15, v16] ∧ Scr0 K H' a (ns.map V.int) ∧ Fx K pT lF lD lW lS H') ⟨none, none, none, none, none, none, none, none, none, none, none, none, rfl, hS9, fx⟩ ?_ ?_⟩
  rotate_left
  · rintro σ H' ⟨_, _, _, _, _, _, _, _, _, _, _, _, rfl, _⟩
    exact rfl
  rintro i σ Ha hi ⟨v5, v6, v7, v8, v9, v10, v11, v12, v13, v14, v15, v16, rfl, sc0, fx0⟩
  refine ⟨_, rfl, _, rfl, a, ns, _, rfl, sc0.sq, hl, by omega, by omega, fun b Hb nb sb0 bg => ?_⟩
  refine ⟨8, rfl, by decide, by decide, for_range (lo := 0) (n := 8) (fun i' σ H' => ∃ (v7 v8 v9 v10 v11 v12 v13 v14 v15 v16 : Option V), σ = [some (.ref a), some (.ref lF), some (.ref lD), some (.ref lW), some (.ref lS), some (.int (0 + (i : Int))), some (.ref b), v7, v8, v9, v10, v11, v12, v13, v14, v15, v16] ∧ Scr K H' a (ns.map V.int) b ∧ Fx K pT lF lD lW lS H' ∧ BagS H' b) ⟨v7, v8, v9, v10, v11, v12, v13, v14, v15, v16, rfl, sc0.bag nb sb0, fx0.same sb0, bg⟩ ?_ ?_⟩
  rotate_left
  · rintro σ H' ⟨_, _, _, _, _, _, _, _, _, _, rfl, sc, fx, _⟩
    exact ⟨_, _, _, _, _, _, _, _, _, _, _, _, rfl, sc.out, fx⟩
  clear bg sb0 fx0 sc0 nb fx hS9
  rintro j σ Ha hj ⟨v7, v8, v9, v10, v11, v12, v13, v14, v15, v16, rfl, sca, fxa, bga⟩
  -- told, spots
  refine ⟨_, rfl, b, rfl, bga, fun Hb lt sS bgb kb tb => ?_⟩
  refine ⟨_, rfl, b, 3, rfl, by decide, by decide, bgb, fun r Hc r0 r1 bgc oc' => ⟨_, _, rfl, rfl, _, rfl, by omega, by omega, fun lk' nlk => ?_⟩⟩
  have nlb : lk' ≠ b := fun z => by obtain ⟨_, _, q, _⟩ := bgc; rw [z, q] at nlk; cases nlk
  refine lc_rangeY (lo := 0) (n := (1 + r).toNat) (fun i H' => SameB b Hc H' ∧ BagS H' b ∧ ∃ ks : List Int, ks.length = i ∧ (∀ k ∈ ks, 0 ≤ k ∧ k < 9) ∧ H' lk' = some (.lst (ks.map V.int))) ⟨sb b (put_same nlk), bgc.mon (put_same nlk), [], rfl, (fun k hk => nomatch hk), upd_same⟩ ?_ ?_
  · rintro i Hd hi ⟨p1, p2, ks, p3, p4, p5⟩
    refine ⟨rfl, _, rfl, b, 9, rfl, by decide, by decide, p2, fun k He k0 k1 bge oe => ?_⟩
    have p6 := oe.same _ _ nlb p5
    refine ⟨_, p6, ?_, grown nlk (p1.trans oe.same), bag_up bge nlb, ks ++ [k], ?_, fun k' hk' => ?_, ?_⟩
    · rw [List.length_map, p3]
      exact Nat.lt_of_lt_of_le (show i < 100 by omega) (by decide)
    · rw [List.length_append, p3]
      rfl
    · rcases List.mem_append.mp hk' with z | z
      · exact p4 _ z
      · rw [List.mem_singleton.mp z]
        exact ⟨k0, k1⟩
    · rw [upd_same, List.map_append]
      rfl
  rintro Hd ⟨p1, bgd, ks, ksl, ksr, eks⟩
  have hk0 : ks ≠ [] := fun z => by rw [z] at ksl; simp at ksl; omega
  refine ⟨(by show 2 ≤ sizeLine; decide), fun u nu => ⟨u, _, rfl, .inl (.inl upd_same), rfl, _, _, rfl, _, _, rfl, rfl, ?_⟩⟩
  have td := (tb.b bgb oc'.same).b bgc p1
  have fxd := ((fxa.b bga kb).b bgb oc'.same).b bgc p1
  have scd := ((sca.b kb).b oc'.same).b p1
  have ku := put_same (o := .tup [.ref lt, .ref lk']) nu
  have t1 := td.same ku
  have fx1 := fxd.same ku
  have sc1 := scd.b (sb b ku)
  have b1 := bgd.mon ku
  have ek1 := ku _ _ eks
  generalize upd Hd u _ = H1 at t1 fx1 sc1 b1 ek1 ⊢
  clear ku nu td fxd scd p1 bgd eks nlk bgc oc' tb kb bgb fxa sca bga
  -- bent
  refine ⟨9, rfl, by decide, by decide, fun lB nB => ?_⟩
  have nBb : lB ≠ b := fun z => by obtain ⟨_, _, q, _⟩ := b1; rw [z, q] at nB; cases nB
  refine lc_rangeY (lo := 0) (n := 9) (fun i H' => SameB b H1 H' ∧ BagS H' b ∧ ∃ xs : List V, xs.length = i ∧ (∀ j x, xs[j]? = some x → BentS K b lB H' ks sS j x) ∧ H' lB = some (.lst xs)) ⟨sb b (put_same nB), b1.mon (put_same nB), [], rfl, (fun j x h => by simp at h), upd_same⟩ ?_ ?_
  · rintro i Hd hi ⟨p1, p2, xs, p3, p4, p5⟩
    have ekd := p1 _ _ nlb ek1
    obtain ⟨w0, etd, _, hw0⟩ := id (t1.b b1 p1)
    have hw0 : w0 = .non := hw0
    subst hw0
    have i0 : (0 + (i : Int)) = (i : Int) := Int.zero_add _
    have fin : ∀ x He, SameB b Hd He → BagS He b → BentS K b lB He ks sS i x → ∃ acc, He lB = some (.lst acc) ∧ acc.length < sizeLine ∧ SameB b H1 (upd He lB (.lst (acc ++ [x]))) ∧ BagS (upd He lB (.lst (acc ++ [x]))) b ∧ ∃ xs : List V, xs.length = i + 1 ∧ (∀ j x', xs[j]? = some x' → BentS K b lB (upd He lB (.lst (acc ++ [x]))) ks sS j x') ∧ (upd He lB (.lst (acc ++ [x]))) lB = some (.lst xs) := fun x He k bge hx => by
      have off : ∀ q o, q ≠ b → q ≠ lB → Hd q = some o → (upd He lB (.lst (xs ++ [x]))) q = some o := fun q o n1 n2 e => by rw [upd_ne n2]; exact k q o n1 e
      refine ⟨xs, k _ _ nBb p5, by rw [p3]; exact Nat.lt_of_lt_of_le (show i < 100 by omega) (by decide), grown nB (p1.trans k), bag_up bge nBb, xs ++ [x], by rw [List.length_append, p3]; rfl, fun j x' hj => ?_, upd_same⟩
      rcases snoc_at hj with ⟨q, rfl⟩ | q
      · rw [q, p3]
        exact hx.mv fun q o _ n e => by rw [upd_ne n]; exact e
      · exact (p4 _ _ q).mv off
    refine ⟨rfl, _, rfl, _, rfl, lk', _, rfl, .inl (SqL.of ekd), rfl, flat_ints _, _, rfl, ?_⟩
    rw [i0, inV_int]
    by_cases hm : (i : Int) ∈ ks
    · rw [decide_eq_true hm]
      refine iteT ⟨_, rfl, _, rfl, b, _, rfl, by omega, by omega, p2, fun He x d bge sbe hd hq => fin x He sbe bge (.inl ⟨hm, d, ?_, dpS_new hq p2.choose_spec.choose_spec.1 p5⟩)⟩
      rw [show (i : Int).toNat = i from Int.toNat_natCast i] at hd
      exact hd
    · rw [decide_eq_false hm]
      have hx : (vals8 sS ++ [V.non])[i]? = some ((vals8 sS ++ [V.non])[i]'(by show i < 9; omega)) := List.getElem?_eq_getElem _
      exact iteF ⟨_, rfl, _, rfl, lt, _, _, _, rfl, rfl, SqL.of etd, at_of (j := i) (by omega) hx, fin _ _ (SameB.refl _ _) p2 (.inr ⟨hm, hx⟩)⟩
  rintro H2 ⟨s12, b2, xs, xl, xr, exs⟩
  have okS : sS.Ok := by obtain ⟨_, _, o, _⟩ := t1; exact o
  have t2 := t1.b b1 s12
  have fx2 := fx1.b b1 s12
  have sc2 := sc1.b s12
  have ek2 := s12 _ _ nlb ek1
  clear s12 t1 fx1 sc1 b1 ek1 nB
  -- the first test
  refine ⟨fx2.t, fun H3 x3 tb3 => ?_⟩
  obtain ⟨x1, x2, x3', x4, x5, x6, x7, x8, bk, d1, d2, d3, d4, d5, d6, d7, d8, b9, m, n, rfl, g1, g2, g3, g4, g5, g6, g7, g8, gk, m1, m2, m3, m4, m5⟩ := bent_set (CB := CB) okS xl xr x3 hk0 ksr
  refine ⟨_, rfl, lB, _, _, _, _, _, _, _, _, bk, d1, d2, d3, d4, d5, d6, d7, d8, b9, std5, rfl, x3 _ _ exs (fun ps z => by cases z), g1, g2, g3, g4, g5, g6, g7, g8, gk, fun n' hn' H4 dd s34 nd ed => ?_, fun s' hs' es hb9 => ?_⟩
  rotate_left
  · rw [hb9, good_rows hs' es g1 g2 g3 g4 g5 g6 g7 g8] at m5
    cases m5
  rw [m5] at hn'
  cases hn'
  have fx4 := (fx2.ext x3 tb3).same s34
  have t4 := (t2.ext x3).same s34
  have sc4 := (sc2.ext x3).b (sb b s34)
  have b4 := (b2.ext x3).mon s34
  have ek4 := s34 _ _ (x3 _ _ ek2 fun ps z => by cases z)
  refine ⟨dd, n, rfl, rfl, ed, _, rfl, _, rfl, lk', ks, rfl, SqL.of ek4, by cases ks with | nil => exact absurd rfl hk0 | cons _ _ => exact Nat.succ_pos _, fun m' hm' hle' => ?_⟩
  obtain rfl : m' = m := Int.le_antisymm (hle' m m1) (m2 m' hm')
  refine ⟨lF, _, _, .str n, rfl, rfl, SqL.of fx4.f, at_of (j := m'.toNat) (by omega) (by rw [List.getElem?_map, m4]; rfl), rfl, _, rfl, ?_⟩
  rw [show (!decide (V.str n = V.str n)) = false by simp]
  refine iteF ?_
  clear g1 g2 g3 g4 g5 g6 g7 g8 gk m1 m2 m3 m4 m5 hm' hle' nd ed s34 exs x3 tb3 ek2 ek4 fx2 t2 sc2 b2 xr hk0 ksr ksl
  -- the second
  refine ⟨fx4.t, fun H5 x5 tb5 => ?_⟩
  obtain ⟨w5, e5, _, hw5⟩ := id (t4.ext x5)
  have hw5 : w5 = .non := hw5
  subst hw5
  refine ⟨_, rfl, ?_⟩
  dsimp only [tNil, List.cons_append, List.nil_append]
  refine set_call e5 okS (.inl ⟨rfl, rfl⟩) fun H6 y s56 ny hy => ⟨rfl, _, rfl, iteF ?_⟩
  have fx6 := (fx4.ext x5 tb5).same s56
  have t6 := (t4.ext x5).same s56
  have sc6 := (sc4.ext x5).b (sb b s56)
  have b6 := (b4.ext x5).mon s56
  clear hy ny s56 x5 tb5 e5 fx4 t4 sc4 b4
  -- right directions
  refine ⟨5, rfl, by decide, by decide, fun lR nR => ?_⟩
  have nRb : lR ≠ b := fun z => by obtain ⟨_, _, q, _⟩ := b6; rw [z, q] at nR; cases nR
  refine lc_rangeY (lo := 0) (n := 5) (fun i H' => SameB b H6 H' ∧ BagS H' b ∧ ∃ (ts : List Addr) (ms : List Nat), ts.length = i ∧ Paired (fun (t : Addr) (m : Nat) => m < 8 ∧ SqT K H' t (wv m)) ts ms ∧ H' lR = some (.lst (ts.map V.ref))) ⟨sb b (put_same nR), b6.mon (put_same nR), [], [], rfl, .nil, upd_same⟩ ?_ ?_
  · rintro i Hd hi ⟨p1, p2, ts, ms, p3, p4, p5⟩
    have fin : ∀ (t : Addr) (m : Nat) He, SameB b Hd He → BagS He b → m < 8 → SqT K He t (wv m) → ∃ acc, He lR = some (.lst acc) ∧ acc.length < sizeLine ∧ SameB b H6 (upd He lR (.lst (acc ++ [.ref t]))) ∧ BagS (upd He lR (.lst (acc ++ [.ref t]))) b ∧ ∃ (ts : List Addr) (ms : List Nat), ts.length = i + 1 ∧ Paired (fun (t' : Addr) (m' : Nat) => m' < 8 ∧ SqT K (upd He lR (.lst (acc ++ [.ref t]))) t' (wv m')) ts ms ∧ (upd He lR (.lst (acc ++ [.ref t]))) lR = some (.lst (ts.map V.ref)) := fun t m He k bge hm ht => by
      have el := k _ _ nRb p5
      refine ⟨_, el, by rw [List.length_map, p3]; exact Nat.lt_of_lt_of_le (show i < 100 by omega) (by decide), grown nR (p1.trans k), bag_up bge nRb, ts ++ [t], ms ++ [m], by rw [List.length_append, p3]; rfl, paired_snoc ⟨hm, sqT_bd ht bge el fun q o _ n2 e => by rw [upd_ne n2]; exact e⟩ (paired_imp p4 fun t' m' z => ⟨z.1, sqT_bd z.2 p2 p5 fun q o n1 n2 e => by rw [upd_ne n2]; exact k q o n1 e⟩), by rw [upd_same, List.map_append]; rfl⟩
    refine ⟨rfl, _, rfl, b, 2, rfl, by decide, by decide, p2, fun r He r0 r1 bge oe => ⟨rfl, _, rfl, ?_⟩⟩
    refine ite2 (fun _ => ?_) fun _ => ?_
    · refine ⟨_, rfl, b, 8, rfl, by decide, by decide, bge, fun r2 Hf q0 q1 bgf of => ⟨r2, rfl, q0, q1, fun Hg t sg ng eg => ?_⟩⟩
      exact fin t r2.toNat Hg ((oe.same.trans of.same).trans (sb b sg)) (bgf.mon sg) (by omega) (.inl (.inl eg))
    · have fxe := (fx6.b b6 p1).b p2 oe.same
      obtain ⟨us, eus, hus⟩ := dut_at fxe.w
      obtain ⟨t, et, st, mt⟩ := hus i hi
      exact ⟨_, rfl, _, rfl, lW, _, _, .ref t, rfl, rfl, SqL.of eus, at_of (j := i) (by omega) (by rw [List.getElem?_map, et]; rfl), fin t _ _ oe.same bge mt st⟩
  rintro H7 ⟨s67, b7, ts, ms, p3, p4, p5⟩
  obtain ⟨v, dR⟩ := dut_of p4 p3 p5
  have ov : ok5 v := by obtain ⟨_, _, _, _, _, _, o, _⟩ := dR; exact o
  have fx7 := fx6.b b6 s67
  have t7 := t6.b b6 s67
  have sc7 := sc6.b s67
  clear p3 p4 p5 s67 fx6 t6 sc6 b6 nR nRb ts ms
  -- spots again
  refine ⟨_, rfl, b, 2, rfl, by decide, by decide, b7, fun r2 Hc q0 q1 bgc oc' => ⟨_, _, rfl, rfl, _, rfl, by omega, by omega, fun lq nlq => ?_⟩⟩
  have nqb : lq ≠ b := fun z => by obtain ⟨_, _, q, _⟩ := bgc; rw [z, q] at nlq; cases nlq
  refine lc_rangeY (lo := 0) (n := (1 + r2).toNat) (fun i H' => SameB b Hc H' ∧ BagS H' b ∧ ∃ ks : List Int, ks.length = i ∧ (∀ k ∈ ks, 0 ≤ k ∧ k < 5) ∧ H' lq = some (.lst (ks.map V.int))) ⟨sb b (put_same nlq), bgc.mon (put_same nlq), [], rfl, (fun k hk => nomatch hk), upd_same⟩ ?_ ?_
  · rintro i Hd hi ⟨p1, p2, ks, p3, p4, p5⟩
    refine ⟨rfl, _, rfl, b, 5, rfl, by decide, by decide, p2, fun k He k0 k1 bge oe => ?_⟩
    have p6 := oe.same _ _ nqb p5
    refine ⟨_, p6, ?_, grown nlq (p1.trans oe.same), bag_up bge nqb, ks ++ [k], ?_, fun k' hk' => ?_, ?_⟩
    · rw [List.length_map, p3]
      exact Nat.lt_of_lt_of_le (show i < 100 by omega) (by decide)
    · rw [List.length_append, p3]
      rfl
    · rcases List.mem_append.mp hk' with z | z
      · exact p4 _ z
      · rw [List.mem_singleton.mp z]
        exact ⟨k0, k1⟩
    · rw [upd_same, List.map_append]
      rfl
  rintro H8 ⟨p1, b8, kq, kql, kqr, ekq⟩
  have hk0 : kq ≠ [] := fun z => by rw [z] at kql; simp at kql; omega
  have t8 := (t7.b b7 oc'.same).b bgc p1
  have fx8 := (fx7.b b7 oc'.same).b bgc p1
  have sc8 := (sc7.b oc'.same).b p1
  have dR8 := (dR.b b7 oc'.same).b bgc p1
  clear p1 bgc oc' dR t7 fx7 sc7 b7 nlq kql
  -- bent again
  refine ⟨5, rfl, by decide, by decide, fun lC nC => ?_⟩
  have nCb : lC ≠ b := fun z => by obtain ⟨_, _, q, _⟩ := b8; rw [z, q] at nC; cases nC
  refine lc_rangeY (lo := 0) (n := 5) (fun i H' => SameB b H8 H' ∧ BagS H' b ∧ ∃ xs : List V, xs.length = i ∧ (∀ j x, xs[j]? = some x → BentB K b lC H' kq v j x) ∧ H' lC = some (.lst xs)) ⟨sb b (put_same nC), b8.mon (put_same nC), [], rfl, (fun j x h => by simp at h), upd_same⟩ ?_ ?_
  · rintro i Hd hi ⟨p1, p2, xs, p3, p4, p5⟩
    have ekd := p1 _ _ nqb ekq
    have dRd := dR8.b b8 p1
    have i0 : (0 + (i : Int)) = (i : Int) := Int.zero_add _
    have fin : ∀ x He, SameB b Hd He → BagS He b → BentB K b lC He kq v i x → ∃ acc, He lC = some (.lst acc) ∧ acc.length < sizeLine ∧ SameB b H8 (upd He lC (.lst (acc ++ [x]))) ∧ BagS (upd He lC (.lst (acc ++ [x]))) b ∧ ∃ xs : List V, xs.length = i + 1 ∧ (∀ j x', xs[j]? = some x' → BentB K b lC (upd He lC (.lst (acc ++ [x]))) kq v j x') ∧ (upd He lC (.lst (acc ++ [x]))) lC = some (.lst xs) := fun x He k bge hx => by
      have off : ∀ q o, q ≠ b → q ≠ lC → Hd q = some o → (upd He lC (.lst (xs ++ [x]))) q = some o := fun q o n1 n2 e => by rw [upd_ne n2]; exact k q o n1 e
      refine ⟨xs, k _ _ nCb p5, by rw [p3]; exact Nat.lt_of_lt_of_le (show i < 100 by omega) (by decide), grown nC (p1.trans k), bag_up bge nCb, xs ++ [x], by rw [List.length_append, p3]; rfl, fun j x' hj => ?_, upd_same⟩
      rcases snoc_at hj with ⟨q, rfl⟩ | q
      · rw [q, p3]
        exact hx.mv fun q o _ n e => by rw [upd_ne n]; exact e
      · exact (p4 _ _ q).mv off
    refine ⟨rfl, _, rfl, _, rfl, lq, _, rfl, .inl (SqL.of ekd), rfl, flat_ints _, _, rfl, ?_⟩
    rw [i0, inV_int]
    by_cases hm : (i : Int) ∈ kq
    · rw [decide_eq_true hm]
      exact iteT ⟨_, rfl, b, rfl, p2, fun He x d bge sbe hd hq => fin x He sbe bge (.inl ⟨hm, d, hd, dpS_new hq p2.choose_spec.choose_spec.1 p5⟩)⟩
    · rw [decide_eq_false hm]
      obtain ⟨us, eus, hus⟩ := dut_at dRd
      obtain ⟨t, et, st, mt⟩ := hus i hi
      exact iteF ⟨_, rfl, _, rfl, lR, _, _, .ref t, rfl, rfl, SqL.of eus, at_of (j := i) (by omega) (by rw [List.getElem?_map, et]; rfl), fin _ _ (SameB.refl _ _) p2 (.inr ⟨hm, dpS_w st p2 p5⟩)⟩
  rintro H9 ⟨s89, b9, xs, xl, xr, exs⟩
  have t9 := t8.b b8 s89
  have fx9 := fx8.b b8 s89
  have sc9 := sc8.b s89
  have ek9 := s89 _ _ nqb ekq
  have dR9 := dR8.b b8 s89
  clear s89 t8 fx8 sc8 b8 ekq nC dR8
  -- the third test
  refine ⟨fx9.t, fun H10 x10 tb10 => ?_⟩
  obtain ⟨x1, x2, x3, x4, x5, d1, d2, d3, d4, d5, m, n, rfl, g1, g2, g3, g4, g5, m1, m2, m3, m4, m5⟩ := bent_book ov xl xr x10 hk0 kqr
  refine ⟨_, rfl, lC, _, _, _, _, _, d1, d2, d3, d4, d5, rfl, x10 _ _ exs (fun ps z => by cases z), g1, g2, g3, g4, g5, fun n' hn' H11 dd s1011 nd ed => ?_, fun w ow e1 e2 e3 e4 e5 => ?_⟩
  rotate_left
  · rw [e1, e2, e3, e4, e5, good_rowsB ow] at m5
    cases m5
  rw [m5] at hn'
  cases hn'
  have fx11 := (fx9.ext x10 tb10).same s1011
  have t11 := (t9.ext x10).same s1011
  have dR11 := (dR9.ext x10).same s1011
  have sc11 := (sc9.ext x10).b (sb b s1011)
  have b11 := (b9.ext x10).mon s1011
  have ek11 := s1011 _ _ (x10 _ _ ek9 fun ps z => by cases z)
  refine ⟨dd, n, rfl, rfl, ed, _, rfl, _, rfl, lq, kq, rfl, SqL.of ek11, by cases kq with | nil => exact absurd rfl hk0 | cons _ _ => exact Nat.succ_pos _, fun m' hm' hle' => ?_⟩
  obtain rfl : m' = m := Int.le_antisymm (hle' m m1) (m2 m' hm')
  refine ⟨lD, _, _, .str n, rfl, rfl, SqL.of fx11.d, at_of (j := m'.toNat) (by omega) (by rw [List.getElem?_map, m4]; rfl), rfl, _, rfl, ?_⟩
  rw [show (!decide (V.str n = V.str n)) = false by simp]
  refine iteF ?_
  clear g1 g2 g3 g4 g5 m1 m2 m3 m4 m5 hm' hle' nd ed s1011 exs x10 tb10 ek9 ek11 fx9 t9 sc9 b9 dR9 xr hk0 kqr
  -- the texts
  obtain ⟨r1', r2', r3', r4', r5', eR, _, h1, h2, h3, h4, h5⟩ := id dR11
  obtain ⟨u1, u2, u3, u4, u5, eW, _, k1, k2, k3, k4, k5⟩ := id fx11.w
  refine ⟨_, rfl, _, rfl, _, rfl, lD, lR, lW, _, _, _, rfl, SqL.of fx11.d, SqL.of eR, SqL.of eW, (show 0 < 5 by decide), (show 5 ≤ 5 by decide), (show 5 ≤ 5 by decide), fun H12 p ts s1112 np ep pr => ?_⟩
  have rb := rows_book ov pr (sqT_same h1 s1112) (sqT_same h2 s1112) (sqT_same h3 s1112) (sqT_same h4 s1112) (sqT_same h5 s1112) (sqT_same k1 s1112) (sqT_same k2 s1112) (sqT_same k3 s1112) (sqT_same k4 s1112) (sqT_same k5 s1112)
  refine ⟨p, ts, brows v, rfl, ep, rb, (show 5 ≤ 20 by decide), fun r hr => ⟨(brows_ok v r hr).1, Nat.le_trans (brows_ok v r hr).2 (by decide)⟩, fun H13 s1213 => ?_⟩
  have lb := bookT_len v
  rw [← book_text, strLen_append, strLen_append, show (("Book(" : Str)).length = 5 by decide +kernel, show ((")" : Str)).length = 1 by decide +kernel] at lb
  refine ⟨_, _, rfl, rfl, ?_, _, _, rfl, rfl, ?_, ?_⟩
  · rw [show (("Book(" : Str)).length = 5 by decide +kernel]
    exact Nat.le_trans (show _ ≤ 10000 by omega) (by decide)
  · rw [strLen_append, show (("Book(" : Str)).length = 5 by decide +kernel, show ((")" : Str)).length = 1 by decide +kernel]
    exact Nat.le_trans (show _ ≤ 10000 by omega) (by decide)
  rw [book_text]
  have fx13 := fx11.same (s1112.trans s1213)
  have t13 := t11.same (s1112.trans s1213)
  have dR13 := dR11.same (s1112.trans s1213)
  have sc13 := sc11.b (sb b (s1112.trans s1213))
  have b13 := b11.mon (s1112.trans s1213)
  clear rb pr ep np s1112 s1213 lb h1 h2 h3 h4 h5 k1 k2 k3 k4 k5 eR eW fx11 t11 dR11 sc11 b11
  refine ⟨_, rfl, 8, rfl, lF, _, rfl, SqL.of fx13.f, fun lX nX => ?_⟩
  generalize hH : upd _ lX _ = H14
  have s14 : Same H13 H14 := by rw [← hH]; exact put_same nX
  have eX : H14 lX = some (.lst ((fieldsW.map V.str).take 8)) := by rw [← hH]; exact upd_same
  clear hH
  obtain ⟨w14, et14, _, hw14⟩ := id (t13.same s14)
  have hw14 : w14 = .non := hw14
  subst hw14
  refine ⟨_, rfl, _, rfl, lX, lt, lS, _, _, _, rfl, SqL.of eX, SqL.of et14, SqL.of (s14 _ _ fx13.s), (show 0 < 8 by decide), (show 8 ≤ 9 by decide), (show 8 ≤ 8 by decide), fun H15 p2 ts2 s1415 np2 ep2 pr2 => ?_⟩
  refine ⟨p2, ts2, srows sS, rfl, ep2, rows_set okS pr2, (show 8 ≤ 20 by decide), srows_sz okS, fun H16 s1516 => ?_⟩
  have s1316 := (s14.trans s1415).trans s1516
  have fx16 := fx13.same s1316
  have t16 := t13.same s1316
  have dR16 := dR13.same s1316
  have sc16 := sc13.b (sb b s1316)
  have b16 := b13.mon s1316
  clear pr2 ep2 np2 s14 s1415 s1516 s1316 et14 eX nX fx13 t13 dR13 sc13 b13
  have tW := told_small okS
  have lT := bookT_len v
  generalize hWd : toldT (srows sS) = Wd at tW ⊢
  generalize hTx : bookT v = Tx at lT ⊢
  -- the list of texts
  refine ⟨fun σ H' => ∃ lM, σ = [some (.ref a), some (.ref lF), some (.ref lD), some (.ref lW), some (.ref lS), some (.int (0 + (i : Int))), some (.ref b), some (.int (0 + (j : Int))), some (.ref lq), some (.ref lR), some (.str Tx), some (.str Wd), some (.ref lM), v13, some (.ref lC), some (.ref lt), v16] ∧ Same H16 H' ∧ H' lM = some (.lst ((moreA Wd).map V.str)), ?_, ?_⟩
  · refine ⟨_, rfl, rfl, _, rfl, ?_⟩
    by_cases hw : Wd = ""
    · rw [hw, ne_self]
      refine iteF ⟨(by show 0 ≤ sizeLine; decide), fun lM nM => ⟨lM, rfl, put_same nM, ?_⟩⟩
      rw [upd_same]
      unfold moreA
      rw [if_pos rfl]
      rfl
    · rw [show (!decide (V.str Wd = V.str "")) = true by simp [hw]]
      refine iteT ⟨_, rfl, (by show 1 ≤ sizeLine; decide), fun lM nM => ⟨lM, rfl, put_same nM, ?_⟩⟩
      rw [upd_same]
      unfold moreA
      rw [if_neg hw]
      rfl
  rintro σ H17 ⟨lM, rfl, s1617, eM⟩
  refine ⟨fun σ H' => ∃ lM, σ = [some (.ref a), some (.ref lF), some (.ref lD), some (.ref lW), some (.ref lS), some (.int (0 + (i : Int))), some (.ref b), some (.int (0 + (j : Int))), some (.ref lq), some (.ref lR), some (.str Tx), some (.str Wd), some (.ref lM), v13, some (.ref lC), some (.ref lt), v16] ∧ Same H17 H' ∧ H' lM = some (.lst ((moreB Wd Tx).map V.str)), ?_, ?_⟩
  · refine ⟨_, rfl, rfl, _, rfl, ?_⟩
    by_cases ht : Tx = "Book()"
    · rw [ht, ne_self]
      refine iteF ⟨_, rfl, lM, rfl, Same.refl _, ?_⟩
      unfold moreB
      rw [if_pos rfl, List.append_nil]
      exact eM
    · rw [show (!decide (V.str Tx = V.str "Book()")) = true by simp [ht]]
      refine iteT ⟨_, rfl, _, rfl, _, _, rfl, rfl, ?_, (by show 1 ≤ sizeLine; decide), fun l nl => ⟨lM, l, _, _, rfl, rfl, by rw [upd_ne (ne_of_none eM nl)]; exact eM, upd_same, ?_, fun lN nN => ⟨lN, rfl, (put_same nl).trans (put_same nN), ?_⟩⟩⟩
      · rw [show (("book=" : Str)).length = 5 by decide +kernel]
        exact Nat.le_trans (show _ ≤ 10000 by omega) (by decide)
      · rw [List.length_map]
        have : (moreA Wd).length ≤ 1 := by unfold moreA; split <;> simp
        exact Nat.le_trans (show _ ≤ 10000 by simp; omega) (by decide)
      · rw [upd_same]
        unfold moreB
        rw [if_neg ht, List.map_append]
        rfl
  rintro σ H18 ⟨lM2, rfl, s1718, eM2⟩
  have s1618 := s1617.trans s1718
  have fx18 := fx16.same s1618
  have t18 := t16.same s1618
  have dR18 := dR16.same s1618
  have sc18 := sc16.b (sb b s1618)
  have b18 := b16.mon s1618
  clear s1617 s1718 s1618 fx16 t16 dR16 sc16 b16 eM
  -- a setting with the book
  obtain ⟨w18, et18, _, hw18⟩ := id t18
  have hw18 : w18 = .non := hw18
  subst hw18
  refine ⟨_, rfl, 8, rfl, lt, _, rfl, SqL.of et18, fun l1 n1 => ?_⟩
  have k1 := put_same (o := .lst (vals8 sS)) n1
  have e1 := upd_same (H := H18) (a := l1) (o := .lst (vals8 sS))
  refine ⟨_, rfl, ?_⟩
  dsimp only [tNil, List.cons_append, List.nil_append]
  refine book_call (dR18.same k1) fun H19 bk s1 nb hb => ⟨(by show 1 ≤ sizeLine; decide), fun l2 n2 => ?_⟩
  have k2 := put_same (o := .lst [.ref bk]) n2
  refine ⟨l1, l2, _, _, rfl, rfl, k2 _ _ (s1 _ _ e1), upd_same, (by show 9 ≤ sizeLine; decide), fun l3 n3 => ?_⟩
  have k3 := put_same (o := .lst (vals8 sS ++ [.ref bk])) n3
  dsimp only [tNil, List.cons_append, List.nil_append]
  refine set_call (s := sS) upd_same okS (.inr ⟨bk, rfl, (hb.same k2).same k3⟩) fun H20 y s20 ny hy => ?_
  have s1820 := (((k1.trans s1).trans k2).trans k3).trans s20
  have fx20 := fx18.same s1820
  have t20 := t18.same s1820
  have dR20 := dR18.same s1820
  have sc20 := sc18.b (sb b s1820)
  have b20 := b18.mon s1820
  have eM20 := s1820 _ _ eM2
  clear s1820 s20 k3 k2 k1 n3 n2 n1 s1 hb nb e1 et18 fx18 t18 dR18 sc18 b18 eM2 ny
  -- repr of the book and of the setting
  refine ⟨_, rfl, ?_⟩
  dsimp only [tNil, List.cons_append, List.nil_append]
  refine book_call dR20 fun H21 bk2 s21 nb2 hb2 => ?_
  obtain ⟨dxb, fsb, eb⟩ := book_ins hb2
  refine ⟨bk2, dxb, fsb, rfl, eb, bk2, v, rfl, hb2, fun H22 s22 => ⟨_, rfl, _, rfl, rfl, _, rfl, ?_⟩⟩
  rw [hTx, ne_self]
  refine iteF ?_
  have k22 := s21.trans s22
  obtain ⟨w22, et22, _, hw22⟩ := id (t20.same k22)
  have hw22 : w22 = .non := hw22
  subst hw22
  refine ⟨_, rfl, ?_⟩
  dsimp only [tNil, List.cons_append, List.nil_append]
  refine set_call et22 okS (.inl ⟨rfl, rfl⟩) fun H23 y2 s23 ny2 hy2 => ?_
  obtain ⟨dxs, fss, es⟩ := set_ins hy2
  have l8 : (("Setting(" : Str)).length = 8 := by decide +kernel
  have l1 : ((")" : Str)).length = 1 := by decide +kernel
  refine ⟨y2, dxs, fss, rfl, es, y2, sS, std5, rfl, hy2, fun H24 s24 => ⟨_, rfl, _, rfl, _, _, rfl, rfl, ?_, _, _, rfl, rfl, ?_, rfl, _, rfl, ?_⟩⟩
  · rw [l8]
    exact Nat.le_trans (show _ ≤ 2000000 by omega) (by decide)
  · rw [strLen_append, l8, l1]
    exact Nat.le_trans (show _ ≤ 2000000 by omega) (by decide)
  rw [← hWd, set_text0, ne_self]
  refine iteF ?_
  have k24 := (k22.trans s23).trans s24
  -- repr of the other setting
  have hy24 := hy.same k24
  obtain ⟨dxm, fsm, em⟩ := set_ins hy24
  refine ⟨_, rfl, y, dxm, fsm, rfl, em, y, sS, v, rfl, hy24, fun H25 s25 => ⟨_, rfl, ⟨_, rfl⟩, _, rfl, _, lM2, _, rfl, rfl, .inl (SqL.of (s25 _ _ (k24 _ _ eM20))), ?_, _, _, rfl, rfl, ?_, _, _, rfl, rfl, ?_, rfl, _, rfl, ?_⟩⟩
  · obtain ⟨_, m2, m3⟩ := more_len Wd Tx
    rw [show ((", " : Str)).length = 2 by decide +kernel]
    omega
  · obtain ⟨m1, _⟩ := more_len Wd Tx
    rw [l8]
    exact Nat.le_trans (show _ ≤ 2000000 by omega) (by decide)
  · obtain ⟨m1, _⟩ := more_len Wd Tx
    rw [strLen_append, l8, l1]
    exact Nat.le_trans (show _ ≤ 2000000 by omega) (by decide)
  rw [← hWd, ← hTx, set_text, ne_self]
  refine iteF ?_
  have k25 := k24.trans s25
  -- safe
  have hy25 := hy.same k25
  obtain ⟨dxn, fsn, en⟩ := set_ins hy25
  obtain ⟨w25, et25, _, hw25⟩ := id (t20.same k25)
  have hw25 : w25 = .non := hw25
  subst hw25
  have fin : Scr K H25 a (ns.map V.int) b ∧ Fx K pT lF lD lW lS H25 ∧ BagS H25 b := ⟨sc20.b (sb b k25), fx20.same k25, b20.mon k25⟩
  refine ⟨_, rfl, y, dxn, fsn, rfl, en, y, sS, v, rfl, hy25, _, rfl, _, rfl, lt, _, _, .bl sS.drain, rfl, rfl, SqL.of et25, at_of (j := 4) (by decide) rfl, _, rfl, ?_⟩
  cases hd : sS.drain with
  | false => exact iteF ⟨false, rfl, rfl, _, rfl, iteE (by simp) ⟨_, _, _, _, _, _, _, _, _, _, rfl, fin⟩⟩
  | true =>
    refine iteT ⟨_, rfl, lt, _, _, .bl sS.early, rfl, rfl, SqL.of et25, at_of (j := 3) (by decide) rfl, _, rfl, _, rfl, ?_⟩
    cases he : sS.early with
    | false => exact iteT ⟨true, rfl, rfl, _, rfl, iteE (by simp) ⟨_, _, _, _, _, _, _, _, _, _, rfl, fin⟩⟩
    | true =>
      refine iteF ⟨_, rfl, lt, _, _, .int sS.batch, rfl, rfl, SqL.of et25, at_of (j := 2) (by decide) rfl, rfl, decide (sS.batch = 0), ?_, rfl, _, rfl, iteE (by simp) ⟨_, _, _, _, _, _, _, _, _, _, rfl, fin⟩⟩
      by_cases z : sS.batch = 0
      · rw [z]; rfl
      · rw [decide_eq_false z, decide_eq_false fun q => z (by injection q)]
end
end Sc
namespace Sc
open PySem L2
/-! ### what the top has written, the head -/
theorem all_mk {lw : PySem.W.OpenLaw} {w : World} {K : PySem.W.Frag} {h : Heap} {mg : Str → Option Value} {fa f1 f3 f4 f5 f6 f7 f8 f9 f10 f24 f11 f12 f13 f14 f15 f16 f17 f18 f19 f20 f21 f22 f30 f31 pp5 dd30 dd31 CB CS CE CW CV : Addr} {tq1 tq2 tq3 tq4 tq5 tfO : Tok} {dT wT cT pT fE cc cda cL pL : Addr} {ocE docE pmE ctE ocC ocO : Value} {odE odC odO : Option Addr} {slE slC slO : Array (Option Value)} {vsO : Array Value} {fiO : Str} {t_dT0 t_dT1 t_dT2 : Tok} {od_dT : Option Addr} {n_dT : Nat} {sl_dT : Array (Option Value)} {t_wT0 t_wT1 : Tok} {od_wT : Option Addr} {n_wT : Nat} {sl_wT : Array (Option Value)} {t_cT0 t_cT1 t_cT2 : Tok} {od_cT : Option Addr} {n_cT : Nat} {sl_cT : Array (Option Value)} {t_pT0 t_pT1 t_pT2 t_pT3 t_pT4 : Tok} {od_pT : Option Addr} {n_pT : Nat} {sl_pT : Array (Option Value)} (X : K.In h) (G : h.Ns mainGlobals mg) (hfa : mg "law" = some (.ref fa))
    {od1 an1 od3 an3 od4 an4 od5 an5 od6 an6 od7 an7 od8 an8 od9 an9 od10 an10 od24 an24 od11 an11 od12 an12 od13 an13 od14 an14 od15 an15 od16 an16 od17 an17 od18 an18 od19 an19 od20 an20 od21 an21 od22 an22 od30 an30 od31 an31 : Option Addr} {sl1 sl3 sl4 sl5 sl6 sl7 sl8 sl9 sl10 sl24 sl11 sl12 sl13 sl14 sl15 sl16 sl17 sl18 sl19 sl20 sl21 sl22 sl30 sl31 : Array (Option Value)} {oc1 kV1 dc1 pm1 cd1 ct1 oc3 kV3 dc3 pm3 cd3 ct3 oc4 kV4 dc4 pm4 cd4 ct4 oc5 kV5 dc5 pm5 cd5 ct5 oc6 kV6 dc6 pm6 cd6 ct6 oc7 kV7 dc7 pm7 cd7 ct7 oc8 kV8 dc8 pm8 cd8 ct8 oc9 kV9 dc9 pm9 cd9 ct9 oc10 kV10 dc10 pm10 cd10 ct10 oc24 kV24 dc24 pm24 cd24 ct24 oc11 kV11 dc11 pm11 cd11 ct11 oc12 kV12 dc12 pm12 cd12 ct12 oc13 kV13 dc13 pm13 cd13 ct13 oc14 kV14 dc14 pm14 cd14 ct14 oc15 kV15 dc15 pm15 cd15 ct15 oc16 kV16 dc16 pm16 cd16 ct16 oc17 kV17 dc17 pm17 cd17 ct17 oc18 kV18 dc18 pm18 cd18 ct18 oc19 kV19 dc19 pm19 cd19 ct19 oc20 kV20 dc20 pm20 cd20 ct20 oc21 kV21 dc21 pm21 cd21 ct21 oc22 kV22 dc22 pm22 ct22 oc30 dc30 pm30 cd30 ct30 oc31 dc31 pm31 cd31 ct31 : Value}
    {rest5 : List Value}
    (aCB : PySem.W.nsIn K mainGlobals "Book" = some (some (.ref CB)))
    (aCS : PySem.W.nsIn K mainGlobals "Setting" = some (some (.ref CS)))
    (aCE : PySem.W.nsIn K mainGlobals "BadSetting" = some (some (.ref CE)))
    (aCW : PySem.W.nsIn K mainGlobals "WindowError" = some (some (.ref CW)))
    (aCV : PySem.W.nsIn K mainGlobals "BadEvent" = some (some (.ref CV)))
    (a1 : PySem.W.findIn K (.ref CB) "__eq__" = some (some (.ref f1)))
    (i1 : PySem.W.isFn K (.ref f1) = true)
    (a3 : PySem.W.findIn K (.ref CB) "__repr__" = some (some (.ref f3)))
    (i3 : PySem.W.isFn K (.ref f3) = true)
    (a4 : PySem.W.findIn K (.ref CS) "__repr__" = some (some (.ref f4)))
    (i4 : PySem.W.isFn K (.ref f4) = true)
    (a30 : PySem.W.findIn K (.ref CB) "__init__" = some (some (.ref f30)))
    (i30 : PySem.W.isFn K (.ref f30) = true)
    (a31 : PySem.W.findIn K (.ref CS) "__init__" = some (some (.ref f31)))
    (i31 : PySem.W.isFn K (.ref f31) = true)
    (p15 : PySem.W.findIn K (.ref CS) "safe" = some (some (.ref pp5)))
    (p25 : PySem.W.specialIn K (.ref pp5) "__get__" = some (some (.builtin "property.__get__")))
    (p35 : PySem.W.takesIn K (.ref pp5) = some true)
    (p45 : PySem.W.recIn K pp5 "property" = some (.ref f5 :: rest5))
    (a6 : PySem.W.nsIn K mainGlobals "integer" = some (some (.ref f6)))
    (a7 : PySem.W.nsIn K mainGlobals "whole" = some (some (.ref f7)))
    (a8 : PySem.W.nsIn K mainGlobals "_same_book" = some (some (.ref f8)))
    (a9 : PySem.W.nsIn K mainGlobals "_are_directions" = some (some (.ref f9)))
    (a10 : PySem.W.nsIn K mainGlobals "_check" = some (some (.ref f10)))
    (a24 : PySem.W.nsIn K mainGlobals "_told" = some (some (.ref f24)))
    (a11 : PySem.W.nsIn K mainGlobals "_law_bag" = some (some (.ref f11)))
    (a12 : PySem.W.nsIn K mainGlobals "_law_take" = some (some (.ref f12)))
    (a13 : PySem.W.nsIn K mainGlobals "_law_of" = some (some (.ref f13)))
    (a14 : PySem.W.nsIn K mainGlobals "_law_ways" = some (some (.ref f14)))
    (a15 : PySem.W.nsIn K mainGlobals "_law_odd" = some (some (.ref f15)))
    (a16 : PySem.W.nsIn K mainGlobals "_law_odd_duty" = some (some (.ref f16)))
    (a17 : PySem.W.nsIn K mainGlobals "_law_right" = some (some (.ref f17)))
    (a18 : PySem.W.nsIn K mainGlobals "_law_setting" = some (some (.ref f18)))
    (a19 : PySem.W.nsIn K mainGlobals "_law_book" = some (some (.ref f19)))
    (a20 : PySem.W.nsIn K mainGlobals "_law_field" = some (some (.ref f20)))
    (a21 : PySem.W.nsIn K mainGlobals "_law_words" = some (some (.ref f21)))
    (a22 : PySem.W.nsIn K mainGlobals "law" = some (some (.ref f22)))
    (l1 : K.lookup f1 = some ⟨oc1, od1, .func (PySem.W.fnOf "__eq__" "Book.__eq__" (defArgs s_Book___eq__) (defBody s_Book___eq__) (defScope s_Book___eq__) .none kV1 dc1 pm1 an1 cd1 ct1), sl1⟩)
    (c1 : PySem.W.codeIn K cd1 "Book.__eq__" = true)
    (k1 : PySem.W.keepIn K (.ref f1) = true)
    (l3 : K.lookup f3 = some ⟨oc3, od3, .func (PySem.W.fnOf "__repr__" "Book.__repr__" (defArgs s_Book___repr__) (defBody s_Book___repr__) (defScope s_Book___repr__) .none kV3 dc3 pm3 an3 cd3 ct3), sl3⟩)
    (c3 : PySem.W.codeIn K cd3 "Book.__repr__" = true)
    (k3 : PySem.W.keepIn K (.ref f3) = true)
    (l4 : K.lookup f4 = some ⟨oc4, od4, .func (PySem.W.fnOf "__repr__" "Setting.__repr__" (defArgs s_Setting___repr__) (defBody s_Setting___repr__) (defScope s_Setting___repr__) .none kV4 dc4 pm4 an4 cd4 ct4), sl4⟩)
    (c4 : PySem.W.codeIn K cd4 "Setting.__repr__" = true)
    (k4 : PySem.W.keepIn K (.ref f4) = true)
    (l5 : K.lookup f5 = some ⟨oc5, od5, .func (PySem.W.fnOf "safe" "Setting.safe" (defArgs s_Setting_safe) (defBody s_Setting_safe) (defScope s_Setting_safe) .none kV5 dc5 pm5 an5 cd5 ct5), sl5⟩)
    (c5 : PySem.W.codeIn K cd5 "Setting.safe" = true)
    (k5 : PySem.W.keepIn K (.ref f5) = true)
    (l6 : K.lookup f6 = some ⟨oc6, od6, .func (PySem.W.fnOf "integer" "integer" (defArgs s_integer) (defBody s_integer) (defScope s_integer) .none kV6 dc6 pm6 an6 cd6 ct6), sl6⟩)
    (c6 : PySem.W.codeIn K cd6 "integer" = true)
    (k6 : PySem.W.keepIn K (.ref f6) = true)
    (l7 : K.lookup f7 = some ⟨oc7, od7, .func (PySem.W.fnOf "whole" "whole" (defArgs s_whole) (defBody s_whole) (defScope s_whole) .none kV7 dc7 pm7 an7 cd7 ct7), sl7⟩)
    (c7 : PySem.W.codeIn K cd7 "whole" = true)
    (k7 : PySem.W.keepIn K (.ref f7) = true)
    (l8 : K.lookup f8 = some ⟨oc8, od8, .func (PySem.W.fnOf "_same_book" "_same_book" (defArgs s__same_book) (defBody s__same_book) (defScope s__same_book) .none kV8 dc8 pm8 an8 cd8 ct8), sl8⟩)
    (c8 : PySem.W.codeIn K cd8 "_same_book" = true)
    (k8 : PySem.W.keepIn K (.ref f8) = true)
    (l9 : K.lookup f9 = some ⟨oc9, od9, .func (PySem.W.fnOf "_are_directions" "_are_directions" (defArgs s__are_directions) (defBody s__are_directions) (defScope s__are_directions) .none kV9 dc9 pm9 an9 cd9 ct9), sl9⟩)
    (c9 : PySem.W.codeIn K cd9 "_are_directions" = true)
    (k9 : PySem.W.keepIn K (.ref f9) = true)
    (l10 : K.lookup f10 = some ⟨oc10, od10, .func (PySem.W.fnOf "_check" "_check" (defArgs s__check) (defBody s__check) (defScope s__check) .none kV10 dc10 pm10 an10 cd10 ct10), sl10⟩)
    (c10 : PySem.W.codeIn K cd10 "_check" = true)
    (k10 : PySem.W.keepIn K (.ref f10) = true)
    (l24 : K.lookup f24 = some ⟨oc24, od24, .func (PySem.W.fnOf "_told" "_told" (defArgs s__told) (defBody s__told) (defScope s__told) .none kV24 dc24 pm24 an24 cd24 ct24), sl24⟩)
    (c24 : PySem.W.codeIn K cd24 "_told" = true)
    (k24 : PySem.W.keepIn K (.ref f24) = true)
    (l11 : K.lookup f11 = some ⟨oc11, od11, .func (PySem.W.fnOf "_law_bag" "_law_bag" (defArgs s__law_bag) (defBody s__law_bag) (defScope s__law_bag) .none kV11 dc11 pm11 an11 cd11 ct11), sl11⟩)
    (c11 : PySem.W.codeIn K cd11 "_law_bag" = true)
    (k11 : PySem.W.keepIn K (.ref f11) = true)
    (l12 : K.lookup f12 = some ⟨oc12, od12, .func (PySem.W.fnOf "_law_take" "_law_take" (defArgs s__law_take) (defBody s__law_take) (defScope s__law_take) .none kV12 dc12 pm12 an12 cd12 ct12), sl12⟩)
    (c12 : PySem.W.codeIn K cd12 "_law_take" = true)
    (k12 : PySem.W.keepIn K (.ref f12) = true)
    (l13 : K.lookup f13 = some ⟨oc13, od13, .func (PySem.W.fnOf "_law_of" "_law_of" (defArgs s__law_of) (defBody s__law_of) (defScope s__law_of) .none kV13 dc13 pm13 an13 cd13 ct13), sl13⟩)
    (c13 : PySem.W.codeIn K cd13 "_law_of" = true)
    (k13 : PySem.W.keepIn K (.ref f13) = true)
    (l14 : K.lookup f14 = some ⟨oc14, od14, .func (PySem.W.fnOf "_law_ways" "_law_ways" (defArgs s__law_ways) (defBody s__law_ways) (defScope s__law_ways) .none kV14 dc14 pm14 an14 cd14 ct14), sl14⟩)
    (c14 : PySem.W.codeIn K cd14 "_law_ways" = true)
    (k14 : PySem.W.keepIn K (.ref f14) = true)
    (l15 : K.lookup f15 = some ⟨oc15, od15, .func (PySem.W.fnOf "_law_odd" "_law_odd" (defArgs s__law_odd) (defBody s__law_odd) (defScope s__law_odd) .none kV15 dc15 pm15 an15 cd15 ct15), sl15⟩)
    (c15 : PySem.W.codeIn K cd15 "_law_odd" = true)
    (k15 : PySem.W.keepIn K (.ref f15) = true)
    (l16 : K.lookup f16 = some ⟨oc16, od16, .func (PySem.W.fnOf "_law_odd_duty" "_law_odd_duty" (defArgs s__law_odd_duty) (defBody s__law_odd_duty) (defScope s__law_odd_duty) .none kV16 dc16 pm16 an16 cd16 ct16), sl16⟩)
    (c16 : PySem.W.codeIn K cd16 "_law_odd_duty" = true)
    (k16 : PySem.W.keepIn K (.ref f16) = true)
    (l17 : K.lookup f17 = some ⟨oc17, od17, .func (PySem.W.fnOf "_law_right" "_law_right" (defArgs s__law_right) (defBody s__law_right) (defScope s__law_right) .none kV17 dc17 pm17 an17 cd17 ct17), sl17⟩)
    (c17 : PySem.W.codeIn K cd17 "_law_right" = true)
    (k17 : PySem.W.keepIn K (.ref f17) = true)
    (l18 : K.lookup f18 = some ⟨oc18, od18, .func (PySem.W.fnOf "_law_setting" "_law_setting" (defArgs s__law_setting) (defBody s__law_setting) (defScope s__law_setting) .none kV18 dc18 pm18 an18 cd18 ct18), sl18⟩)
    (c18 : PySem.W.codeIn K cd18 "_law_setting" = true)
    (k18 : PySem.W.keepIn K (.ref f18) = true)
    (l19 : K.lookup f19 = some ⟨oc19, od19, .func (PySem.W.fnOf "_law_book" "_law_book" (defArgs s__law_book) (defBody s__law_book) (defScope s__law_book) .none kV19 dc19 pm19 an19 cd19 ct19), sl19⟩)
    (c19 : PySem.W.codeIn K cd19 "_law_book" = true)
    (k19 : PySem.W.keepIn K (.ref f19) = true)
    (l20 : K.lookup f20 = some ⟨oc20, od20, .func (PySem.W.fnOf "_law_field" "_law_field" (defArgs s__law_field) (defBody s__law_field) (defScope s__law_field) .none kV20 dc20 pm20 an20 cd20 ct20), sl20⟩)
    (c20 : PySem.W.codeIn K cd20 "_law_field" = true)
    (k20 : PySem.W.keepIn K (.ref f20) = true)
    (l21 : K.lookup f21 = some ⟨oc21, od21, .func (PySem.W.fnOf "_law_words" "_law_words" (defArgs s__law_words) (defBody s__law_words) (defScope s__law_words) .none kV21 dc21 pm21 an21 cd21 ct21), sl21⟩)
    (c21 : PySem.W.codeIn K cd21 "_law_words" = true)
    (k21 : PySem.W.keepIn K (.ref f21) = true)
    (l22 : K.lookup f22 = some ⟨oc22, od22, .func (PySem.W.fnOf "law" "law" (defArgs s_law) (defBody s_law) (defScope s_law) .none kV22 dc22 pm22 an22 (.ref cL) ct22), sl22⟩)
    (c22 : PySem.W.codeIn K (.ref cL) "law" = true)
    (k22 : PySem.W.keepIn K (.ref f22) = true)
    (l30 : K.lookup f30 = some ⟨oc30, od30, .func (PySem.W.fnOf "__init__" "Book.__init__" (defArgs s_Book___init__) (defBody s_Book___init__) (defScope s_Book___init__) .none (.ref dd30) dc30 pm30 an30 cd30 ct30), sl30⟩)
    (c30 : PySem.W.codeIn K cd30 "Book.__init__" = true)
    (k30 : PySem.W.keepIn K (.ref f30) = true)
    (d30_0 : PySem.W.nsIn K dd30 "cleaned" = some (some (.ref dT)))
    (d30_1 : PySem.W.nsIn K dd30 "dropped" = some (some (.ref wT)))
    (d30_2 : PySem.W.nsIn K dd30 "bind_copied" = some (some (.ref dT)))
    (d30_3 : PySem.W.nsIn K dd30 "give_copied" = some (some (.ref dT)))
    (d30_4 : PySem.W.nsIn K dd30 "take_copied" = some (some (.ref wT)))
    (l31 : K.lookup f31 = some ⟨oc31, od31, .func (PySem.W.fnOf "__init__" "Setting.__init__" (defArgs s_Setting___init__) (defBody s_Setting___init__) (defScope s_Setting___init__) .none (.ref dd31) dc31 pm31 an31 cd31 ct31), sl31⟩)
    (c31 : PySem.W.codeIn K cd31 "Setting.__init__" = true)
    (k31 : PySem.W.keepIn K (.ref f31) = true)
    (d31_0 : PySem.W.nsIn K dd31 "copies" = some (some (.str "none" tq1)))
    (d31_1 : PySem.W.nsIn K dd31 "cached" = some (some (.bool false)))
    (d31_2 : PySem.W.nsIn K dd31 "batch" = some (some (.int 0 tq2)))
    (d31_3 : PySem.W.nsIn K dd31 "early" = some (some (.bool false)))
    (d31_4 : PySem.W.nsIn K dd31 "drain" = some (some (.bool true)))
    (d31_5 : PySem.W.nsIn K dd31 "policy" = some (some (.str "first" tq3)))
    (d31_6 : PySem.W.nsIn K dd31 "groups" = some (some (.int 16 tq4)))
    (d31_7 : PySem.W.nsIn K dd31 "tables" = some (some (.int 16 tq5)))
    (d31_8 : PySem.W.nsIn K dd31 "book" = some (some (.none)))
    (bpg : PySem.W.plainGet K CB Str.empty = true)
    (bhd : PySem.W.hasDictIn K CB = true)
    (bpo : PySem.W.plainOver K CB = true)
    (bsa : PySem.W.findIn K (.ref CB) "__setattr__" = some (some (.builtin "object.__setattr__")))
    (bmk : PySem.W.makesIn K CB = true)
    (bkc : PySem.W.keepIn K (.ref CB) = true)
    (bn1 : PySem.W.findIn K (.ref CB) "cleaned" = some none)
    (bn2 : PySem.W.findIn K (.ref CB) "dropped" = some none)
    (bn3 : PySem.W.findIn K (.ref CB) "bind_copied" = some none)
    (bn4 : PySem.W.findIn K (.ref CB) "give_copied" = some none)
    (bn5 : PySem.W.findIn K (.ref CB) "take_copied" = some none)
    (be1 : PySem.W.findIn K (.ref CB) "__class__" = some (some (.builtin "object.__class__")))
    (be4 : PySem.W.mroIn K CB (.type "object") = some true)
    (be5 : PySem.W.kitOne K (.ref CB) (.type "int") = some false)
    (bne : PySem.W.findIn K (.ref CB) "__ne__" = some (some (.builtin "object.__ne__")))
    (spg : PySem.W.plainGet K CS Str.empty = true)
    (shd : PySem.W.hasDictIn K CS = true)
    (spo : PySem.W.plainOver K CS = true)
    (ssa : PySem.W.findIn K (.ref CS) "__setattr__" = some (some (.builtin "object.__setattr__")))
    (smk : PySem.W.makesIn K CS = true)
    (skc : PySem.W.keepIn K (.ref CS) = true)
    (sn1 : PySem.W.findIn K (.ref CS) "copies" = some none)
    (sn2 : PySem.W.findIn K (.ref CS) "cached" = some none)
    (sn3 : PySem.W.findIn K (.ref CS) "batch" = some none)
    (sn4 : PySem.W.findIn K (.ref CS) "early" = some none)
    (sn5 : PySem.W.findIn K (.ref CS) "drain" = some none)
    (sn6 : PySem.W.findIn K (.ref CS) "policy" = some none)
    (sn7 : PySem.W.findIn K (.ref CS) "groups" = some none)
    (sn8 : PySem.W.findIn K (.ref CS) "tables" = some none)
    (sn9 : PySem.W.findIn K (.ref CS) "book" = some none)
    (se1 : PySem.W.findIn K (.ref CS) "__class__" = some (some (.builtin "object.__class__")))
    (se4 : PySem.W.mroIn K CS (.type "object") = some true)
    (se5 : PySem.W.kitOne K (.ref CS) (.type "int") = some false)
    (sne : PySem.W.findIn K (.ref CS) "__ne__" = some (some (.builtin "object.__ne__")))
    (e2 : PySem.W.specialIn K (.builtin "object.__class__") "__get__" = some (some (.builtin "getset_descriptor.__get__")))
    (e3 : PySem.W.takesIn K (.builtin "object.__class__") = some true)
    (bx_NoneType : PySem.W.kitOne K (.type "NoneType") (.ref CB) = some false)
    (bx_bool : PySem.W.kitOne K (.type "bool") (.ref CB) = some false)
    (bx_int : PySem.W.kitOne K (.type "int") (.ref CB) = some false)
    (bx_str : PySem.W.kitOne K (.type "str") (.ref CB) = some false)
    (bx_tuple : PySem.W.kitOne K (.type "tuple") (.ref CB) = some false)
    (bx_list : PySem.W.kitOne K (.type "list") (.ref CB) = some false)
    (bx_dict : PySem.W.kitOne K (.type "dict") (.ref CB) = some false)
    (by_NoneType : PySem.W.notFirst K CB (.type "NoneType") = true)
    (by_bool : PySem.W.notFirst K CB (.type "bool") = true)
    (by_int : PySem.W.notFirst K CB (.type "int") = true)
    (by_str : PySem.W.notFirst K CB (.type "str") = true)
    (by_tuple : PySem.W.notFirst K CB (.type "tuple") = true)
    (by_list : PySem.W.notFirst K CB (.type "list") = true)
    (x_qq : PySem.W.excInitIn K CE veTail "ValueError.__new__" = true)
    (x_ov : PySem.W.excOver K CE veTail = true)
    (x_hd : PySem.W.hasDictIn K CE = true)
    (x_sa : PySem.W.findIn K (.ref CE) "__setattr__" = some (some (.builtin "object.__setattr__")))
    (x_ex : PySem.W.subIn K (.ref CE) (.type "BaseException") = some true)
    (x_ty : PySem.W.typeIn K (.ref CE) = some (.type "type"))
    (x_kc : PySem.W.keepIn K (.ref CE) = true)
    (x_sb : PySem.W.subIn K (.ref CE) (.type "ValueError") = some true)
    (x_iC : PySem.W.findIn K (.ref CE) "__init__" = some (some (.ref fE)))
    (x_lk : K.lookup fE = some ⟨ocE, odE, .func ((nfBS cc cda).fd docE pmE ctE), slE⟩)
    (x_cd : PySem.W.codeIn K (.ref cda) "BadSetting.__init__" = true)
    (x_lc : K.lookup cc = some ⟨ocC, odC, .cell (some (.ref CE)), slC⟩)
    (x_co : K.lookup cda = some ⟨ocO, odO, .fields vsO, slO⟩)
    (x_vs : vsO[2]? = some (.str fiO tfO))
    (x_fi : ((lw.prog.main.file : Str) == fiO) = true)
    (x_top : (lw.prog.main.scope.names.lookup ("super" : Str)).isSome = false)
    (x_su : PySem.W.nsIn K mainGlobals "super" = some none)
    (x_mr : PySem.W.mroIn K CE (.ref CE) = some true)
    (x_si : PySem.W.ks_superIn K CE CE "__init__" = some (some (.builtin "ValueError.__init__")))
    (x_op : PySem.W.nsIn K cStatics "thirdparty.any" = some none)
    (x_tk : PySem.W.takerIn K CE "field" = some none)
    (x_tI : PySem.W.typeIn K (.ref fE) = some (.type "function"))
    (x_sP : PySem.W.subIn K (.ref CE) (.ref CE) = some true)
    (x_ga : PySem.W.findIn K (.ref CE) "__getattribute__" = some (some (.builtin "BaseException.__getattribute__")))
    (x_gg : PySem.W.findIn K (.ref CE) "__getattr__" = some none)
    (x_nm : PySem.W.findIn K (.ref CE) "field" = some none)
    (x_c1 : PySem.W.findIn K (.ref CE) "__class__" = some (some (.builtin "object.__class__")))
    (x_c4 : PySem.W.mroIn K CE (.type "object") = some true)
    (k_W : PySem.W.kitOne K (.ref CE) (.ref CW) = some true)
    (k_V : PySem.W.kitOne K (.ref CE) (.type "ValueError") = some true)
    (k_E : PySem.W.kitOne K (.ref CE) (.ref CV) = some false)
    (g_dT : PySem.W.nsIn K mainGlobals "DIRECTIONS" = some (some (.ref dT)))
    (q_dT : K.lookup dT = some ⟨.type "tuple", od_dT, .seq #[.str "to" t_dT0, .str "from" t_dT1, .str "both" t_dT2] n_dT, sl_dT⟩)
    (g_wT : PySem.W.nsIn K mainGlobals "WRITING" = some (some (.ref wT)))
    (q_wT : K.lookup wT = some ⟨.type "tuple", od_wT, .seq #[.str "from" t_wT0, .str "both" t_wT1] n_wT, sl_wT⟩)
    (g_cT : PySem.W.nsIn K mainGlobals "_COPIES" = some (some (.ref cT)))
    (q_cT : K.lookup cT = some ⟨.type "tuple", od_cT, .seq #[.str "none" t_cT0, .str "ends" t_cT1, .str "all" t_cT2] n_cT, sl_cT⟩)
    (g_pT : PySem.W.nsIn K mainGlobals "POLICIES" = some (some (.ref pT)))
    (q_pT : K.lookup pT = some ⟨.type "tuple", od_pT, .seq #[.str "first" t_pT0, .str "best" t_pT1, .str "worst" t_pT2, .str "next" t_pT3, .str "halves" t_pT4] n_pT, sl_pT⟩)
    (z_len : PySem.W.nsIn K mainGlobals "len" = some none)
    (z_abs : PySem.W.nsIn K mainGlobals "abs" = some none)
    (z_enumerate : PySem.W.nsIn K mainGlobals "enumerate" = some none)
    (z_range : PySem.W.nsIn K mainGlobals "range" = some none)
    (z_min : PySem.W.nsIn K mainGlobals "min" = some none)
    (z_max : PySem.W.nsIn K mainGlobals "max" = some none)
    (z_isinstance : PySem.W.nsIn K mainGlobals "isinstance" = some none)
    (z_int : PySem.W.nsIn K mainGlobals "int" = some none)
    (z_bool : PySem.W.nsIn K mainGlobals "bool" = some none)
    (z_tuple : PySem.W.nsIn K mainGlobals "tuple" = some none)
    (z_repr : PySem.W.nsIn K mainGlobals "repr" = some none)
    (z_list : PySem.W.nsIn K mainGlobals "list" = some none)
    (z_zip : PySem.W.nsIn K mainGlobals "zip" = some none)
    (z_ValueError : PySem.W.nsIn K mainGlobals "ValueError" = some none)
    (hdL : PySem.W.codeHdIn K cL pL = true)
    (ntL : K.lookup pL = none)
    (tbL : h.get? pL = some (PySem.W.tabObj #[])) :
    Tp.LawT lw w K 63 mg fa h := by
  have e := hfa.symm.trans (PySem.W.mg_of X G a22)
  cases e
  have F1 := fun_mk (st := s_Book___eq__) l1 c1 k1
  have b1 := F1.binds (ps := ["self", "other"]) fun _ _ _ _ _ _ us hl => match us, hl with | [_, _], _ => rfl
  have F3 := fun_mk (st := s_Book___repr__) l3 c3 k3
  have b3 := F3.binds (ps := ["self"]) fun _ _ _ _ _ _ us hl => match us, hl with | [_], _ => rfl
  have F4 := fun_mk (st := s_Setting___repr__) l4 c4 k4
  have b4 := F4.binds (ps := ["self"]) fun _ _ _ _ _ _ us hl => match us, hl with | [_], _ => rfl
  have F5 := fun_mk (st := s_Setting_safe) l5 c5 k5
  have b5 := F5.binds (ps := ["self"]) fun _ _ _ _ _ _ us hl => match us, hl with | [_], _ => rfl
  have F6 := fun_mk (st := s_integer) l6 c6 k6
  have b6 := F6.binds (ps := ["value"]) fun _ _ _ _ _ _ us hl => match us, hl with | [_], _ => rfl
  have F7 := fun_mk (st := s_whole) l7 c7 k7
  have b7 := F7.binds (ps := ["value", "least", "most"]) fun _ _ _ _ _ _ us hl => match us, hl with | [_, _, _], _ => rfl
  have F8 := fun_mk (st := s__same_book) l8 c8 k8
  have b8 := F8.binds (ps := ["book"]) fun _ _ _ _ _ _ us hl => match us, hl with | [_], _ => rfl
  have F9 := fun_mk (st := s__are_directions) l9 c9 k9
  have b9 := F9.binds (ps := ["value"]) fun _ _ _ _ _ _ us hl => match us, hl with | [_], _ => rfl
  have F10 := fun_mk (st := s__check) l10 c10 k10
  have b10 := F10.binds (ps := ["fields"]) fun _ _ _ _ _ _ us hl => match us, hl with | [_], _ => rfl
  have F24 := fun_mk (st := s__told) l24 c24 k24
  have b24 := F24.binds (ps := ["fields"]) fun _ _ _ _ _ _ us hl => match us, hl with | [_], _ => rfl
  have F11 := fun_mk (st := s__law_bag) l11 c11 k11
  have b11 := F11.binds (ps := ["_law_script", "_law_at"]) fun _ _ _ _ _ _ us hl => match us, hl with | [_, _], _ => rfl
  have F12 := fun_mk (st := s__law_take) l12 c12 k12
  have b12 := F12.binds (ps := ["_law_bag_here", "_law_many"]) fun _ _ _ _ _ _ us hl => match us, hl with | [_, _], _ => rfl
  have F13 := fun_mk (st := s__law_of) l13 c13 k13
  have b13 := F13.binds (ps := ["_law_bag_here", "_law_some"]) fun _ _ _ _ _ _ us hl => match us, hl with | [_, _], _ => rfl
  have F14 := fun_mk (st := s__law_ways) l14 c14 k14
  have b14 := F14.binds (ps := ["_law_number"]) fun _ _ _ _ _ _ us hl => match us, hl with | [_], _ => rfl
  have F15 := fun_mk (st := s__law_odd) l15 c15 k15
  have b15 := F15.binds (ps := ["_law_bag_here", "_law_at"]) fun _ _ _ _ _ _ us hl => match us, hl with | [_, _], _ => rfl
  have F16 := fun_mk (st := s__law_odd_duty) l16 c16 k16
  have b16 := F16.binds (ps := ["_law_bag_here"]) fun _ _ _ _ _ _ us hl => match us, hl with | [_], _ => rfl
  have F17 := fun_mk (st := s__law_right) l17 c17 k17
  have b17 := F17.binds (ps := ["_law_bag_here"]) fun _ _ _ _ _ _ us hl => match us, hl with | [_], _ => rfl
  have F18 := fun_mk (st := s__law_setting) l18 c18 k18
  have b18 := F18.binds (ps := ["_law_told"]) fun _ _ _ _ _ _ us hl => match us, hl with | [_], _ => rfl
  have F19 := fun_mk (st := s__law_book) l19 c19 k19
  have b19 := F19.binds (ps := ["_law_told"]) fun _ _ _ _ _ _ us hl => match us, hl with | [_], _ => rfl
  have F20 := fun_mk (st := s__law_field) l20 c20 k20
  have b20 := F20.binds (ps := ["_law_call"]) fun _ _ _ _ _ _ us hl => match us, hl with | [_], _ => rfl
  have F21 := fun_mk (st := s__law_words) l21 c21 k21
  have b21 := F21.binds (ps := ["_law_pairs"]) fun _ _ _ _ _ _ us hl => match us, hl with | [_], _ => rfl
  have F22 := fun_mk (st := s_law) l22 c22 k22
  have F30 : FunD K "__init__" "Book.__init__" (defArgs s_Book___init__) (defBody s_Book___init__) (defScope s_Book___init__) [] [("cleaned", .ref dT), ("dropped", .ref wT), ("bind_copied", .ref dT), ("give_copied", .ref dT), ("take_copied", .ref wT)] f30 _ := ⟨⟨_, _, _, _, _, _, _, _, _, _, rfl, l30, c30, .inl ⟨rfl, rfl⟩, .inr ⟨dd30, rfl, fun q hq => by
      simp only [List.mem_cons, List.not_mem_nil, or_false] at hq
      rcases hq with rfl | rfl | rfl | rfl | rfl
      · exact ⟨_, d30_0, by first | rfl | exact ⟨_, rfl⟩⟩
      · exact ⟨_, d30_1, by first | rfl | exact ⟨_, rfl⟩⟩
      · exact ⟨_, d30_2, by first | rfl | exact ⟨_, rfl⟩⟩
      · exact ⟨_, d30_3, by first | rfl | exact ⟨_, rfl⟩⟩
      · exact ⟨_, d30_4, by first | rfl | exact ⟨_, rfl⟩⟩
    ⟩⟩, k30⟩
  have F31 : FunD K "__init__" "Setting.__init__" (defArgs s_Setting___init__) (defBody s_Setting___init__) (defScope s_Setting___init__) [] [("copies", .str "none"), ("cached", .bl false), ("batch", .int 0), ("early", .bl false), ("drain", .bl true), ("policy", .str "first"), ("groups", .int 16), ("tables", .int 16), ("book", .non)] f31 _ := ⟨⟨_, _, _, _, _, _, _, _, _, _, rfl, l31, c31, .inl ⟨rfl, rfl⟩, .inr ⟨dd31, rfl, fun q hq => by
      simp only [List.mem_cons, List.not_mem_nil, or_false] at hq
      rcases hq with rfl | rfl | rfl | rfl | rfl | rfl | rfl | rfl | rfl
      · exact ⟨_, d31_0, by first | rfl | exact ⟨_, rfl⟩⟩
      · exact ⟨_, d31_1, by first | rfl | exact ⟨_, rfl⟩⟩
      · exact ⟨_, d31_2, by first | rfl | exact ⟨_, rfl⟩⟩
      · exact ⟨_, d31_3, by first | rfl | exact ⟨_, rfl⟩⟩
      · exact ⟨_, d31_4, by first | rfl | exact ⟨_, rfl⟩⟩
      · exact ⟨_, d31_5, by first | rfl | exact ⟨_, rfl⟩⟩
      · exact ⟨_, d31_6, by first | rfl | exact ⟨_, rfl⟩⟩
      · exact ⟨_, d31_7, by first | rfl | exact ⟨_, rfl⟩⟩
      · exact ⟨_, d31_8, by first | rfl | exact ⟨_, rfl⟩⟩
    ⟩⟩, k31⟩
  have P5 : PropOf K CS "safe" pp5 f5 := ⟨p15, p25, p35, ⟨_, p45⟩⟩
  have D6 : Def K mg "integer" f6 _ ["value"] := ⟨PySem.W.mg_of X G a6, k6, b6⟩
  have D7 : Def K mg "whole" f7 _ ["value", "least", "most"] := ⟨PySem.W.mg_of X G a7, k7, b7⟩
  have D8 : Def K mg "_same_book" f8 _ ["book"] := ⟨PySem.W.mg_of X G a8, k8, b8⟩
  have D9 : Def K mg "_are_directions" f9 _ ["value"] := ⟨PySem.W.mg_of X G a9, k9, b9⟩
  have D10 : Def K mg "_check" f10 _ ["fields"] := ⟨PySem.W.mg_of X G a10, k10, b10⟩
  have D24 : Def K mg "_told" f24 _ ["fields"] := ⟨PySem.W.mg_of X G a24, k24, b24⟩
  have D11 : Def K mg "_law_bag" f11 _ ["_law_script", "_law_at"] := ⟨PySem.W.mg_of X G a11, k11, b11⟩
  have D12 : Def K mg "_law_take" f12 _ ["_law_bag_here", "_law_many"] := ⟨PySem.W.mg_of X G a12, k12, b12⟩
  have D13 : Def K mg "_law_of" f13 _ ["_law_bag_here", "_law_some"] := ⟨PySem.W.mg_of X G a13, k13, b13⟩
  have D14 : Def K mg "_law_ways" f14 _ ["_law_number"] := ⟨PySem.W.mg_of X G a14, k14, b14⟩
  have D15 : Def K mg "_law_odd" f15 _ ["_law_bag_here", "_law_at"] := ⟨PySem.W.mg_of X G a15, k15, b15⟩
  have D16 : Def K mg "_law_odd_duty" f16 _ ["_law_bag_here"] := ⟨PySem.W.mg_of X G a16, k16, b16⟩
  have D17 : Def K mg "_law_right" f17 _ ["_law_bag_here"] := ⟨PySem.W.mg_of X G a17, k17, b17⟩
  have D18 : Def K mg "_law_setting" f18 _ ["_law_told"] := ⟨PySem.W.mg_of X G a18, k18, b18⟩
  have D19 : Def K mg "_law_book" f19 _ ["_law_told"] := ⟨PySem.W.mg_of X G a19, k19, b19⟩
  have D20 : Def K mg "_law_field" f20 _ ["_law_call"] := ⟨PySem.W.mg_of X G a20, k20, b20⟩
  have D21 : Def K mg "_law_words" f21 _ ["_law_pairs"] := ⟨PySem.W.mg_of X G a21, k21, b21⟩
  refine ⟨[(cL, pL)], fun p hp => by rw [List.mem_singleton.mp hp]; exact tbL, fun p hp => by rw [List.mem_singleton.mp hp]; exact ntL, fun p hp => by rw [List.mem_singleton.mp hp]; exact PySem.W.codeHd_of_K X hdL, ?_⟩
  intro base s H a ns' hn _ _ hb3 e0 hT hS
  have TBl : LamX.TabB base mg cL pL := hb3 (cL, pL) List.mem_cons_self
  have hP : H pL = some (.tbl #[]) := hT (cL, pL) List.mem_cons_self
  have B : TB mg := ⟨PySem.W.mg_none_of X G z_len, PySem.W.mg_none_of X G z_abs, PySem.W.mg_none_of X G z_enumerate, PySem.W.mg_none_of X G z_range, PySem.W.mg_none_of X G z_min, PySem.W.mg_none_of X G z_max, PySem.W.mg_none_of X G z_isinstance, PySem.W.mg_none_of X G z_int, PySem.W.mg_none_of X G z_bool, PySem.W.mg_none_of X G z_tuple, PySem.W.mg_none_of X G z_repr⟩
  have BZ : TZ mg := ⟨B, PySem.W.mg_none_of X G z_list, PySem.W.mg_none_of X G z_zip⟩
  have NBb : NB mg := ⟨PySem.W.mg_none_of X G z_isinstance, PySem.W.mg_none_of X G z_int, PySem.W.mg_none_of X G z_bool, PySem.W.mg_none_of X G z_tuple⟩
  have T : TBk K mg CB := ⟨⟨bpg, bhd, bpo, bsa⟩, bn1, bn2, bn3, bn4, bn5, PySem.W.mg_of X G aCB⟩
  have U : TSt K mg CS := ⟨⟨spg, shd, spo, ssa⟩, sn1, sn2, sn3, sn4, sn5, sn6, sn7, sn8, sn9, PySem.W.mg_of X G aCS⟩
  have ZB : IsR K CB := ⟨be1, e2, e3, be4, be5⟩
  have NN : TE' lw.prog K mg CE fE cc cda docE pmE ctE := ⟨⟨PySem.F.excBase_ValueError, PySem.F.store_ValueError, PySem.W.kxs_ValueError, x_qq, x_ov, x_hd, x_sa, x_ex, x_ty, x_kc, x_sb⟩, ⟨_, _, _, x_lk⟩, x_cd, ⟨_, _, _, x_lc⟩, ⟨_, _, _, _, _, _, x_co, x_vs, x_fi⟩, x_top, PySem.W.mg_none_of X G x_su, x_mr, x_si, x_op, x_tk, x_iC, x_tI, PySem.W.mg_of X G aCE, x_sP, x_ga, x_gg, x_nm⟩
  have bN : Binds K ((nfBS cc cda).fd docE pmE ctE) ["self", "field"] [] := .all fun us hl => match us, hl with | [_, _], _ => rfl
  have XX : XF K mg CE CW CV := ⟨PySem.W.mg_of X G aCW, PySem.W.mg_of X G aCV, PySem.W.mg_none_of X G z_ValueError, PySem.W.mg_none_of X G z_isinstance, k_W, k_V, k_E, ⟨x_ga, x_gg, x_ex, x_hd, x_c1, e2, e3, x_c4⟩⟩
  have D : DirAt K mg dT wT cT pT := ⟨PySem.W.mg_of X G g_dT, fun H => .inr ⟨_, _, _, q_dT, rfl, rfl, (by show 3 ≤ sizeLine; decide), (.cons ⟨_, rfl⟩ (.cons ⟨_, rfl⟩ (.cons ⟨_, rfl⟩ .nil)))⟩, PySem.W.mg_of X G g_wT, fun H => .inr ⟨_, _, _, q_wT, rfl, rfl, (by show 2 ≤ sizeLine; decide), (.cons ⟨_, rfl⟩ (.cons ⟨_, rfl⟩ .nil))⟩, PySem.W.mg_of X G g_cT, fun H => .inr ⟨_, _, _, q_cT, rfl, rfl, (by show 3 ≤ sizeLine; decide), (.cons ⟨_, rfl⟩ (.cons ⟨_, rfl⟩ (.cons ⟨_, rfl⟩ .nil)))⟩, PySem.W.mg_of X G g_pT, fun H => .inr ⟨_, _, _, q_pT, rfl, rfl, (by show 5 ≤ sizeLine; decide), (.cons ⟨_, rfl⟩ (.cons ⟨_, rfl⟩ (.cons ⟨_, rfl⟩ (.cons ⟨_, rfl⟩ (.cons ⟨_, rfl⟩ .nil)))))⟩⟩
  have MB : Mk K CB f30 := ⟨bmk, a30, i30, bkc⟩
  have MS : Mk K CS f31 := ⟨smk, a31, i31, skc⟩
  have FBI : FB K dT wT f30 _ := F30
  have FSI : FSt K f31 _ := F31
  have kb9 : ∀ d : PyData, (∀ kvs, d ≠ .dict kvs) → PySem.W.kitOne K (.type (tyD d)) (.ref CB) = some false := fun d hd => by
    cases d with
    | none => exact bx_NoneType
    | bool _ => exact bx_bool
    | int _ => exact bx_int
    | str _ => exact bx_str
    | list _ => exact bx_list
    | tuple _ => exact bx_tuple
    | dict kvs => exact absurd rfl (hd kvs)
  have GI : FnOk lw.prog w K mg base CX0 1 f6 _ ["value"] (spInteger K) := ok_integer F6 NBb
  have GW : FnOk lw.prog w K mg base CX0 2 f7 _ ["value", "least", "most"] (spWhole K) := ok_whole F7 GI D6
  have GD : FnOk lw.prog w K mg base CX0 1 f9 _ ["value"] (spDirs K) := ok_dirs F9 (PySem.W.mg_none_of X G z_isinstance) (PySem.W.mg_none_of X G z_tuple) D
  have GDD : FnOk lw.prog w K mg base CX0 1 f9 _ ["value"] (spDirsD K) := ok_dirsD F9 (PySem.W.mg_none_of X G z_isinstance) (PySem.W.mg_none_of X G z_tuple) D
  have GC : FnOk lw.prog w K mg base CX0 1 f10 _ ["fields"] spCheck := ok_check F10
  have GCR : FnOk lw.prog w K mg base (L2.CX lw.prog w) 3 f10 _ ["fields"] (spCheckR CE) := ok_checkR F10 NN bN
  have GBI : FnOk lw.prog w K mg base CX0 2 f30 _ NBk (spBInit K CB) := ok_binit F30 T GD D9 GC D10
  have GBR : FnOk lw.prog w K mg base (L2.CX lw.prog w) 4 f30 _ NBk (spBInitR K CE CB) := ok_binitR F30 T GDD D9 GCR D10
  have GSa : FnOk lw.prog w K mg base CX0 4 f8 _ ["book"] (spSame K CB) := ok_same F8 T MB GBI FBI
  have GSR : FnOk lw.prog w K mg base (L2.CX lw.prog w) 5 f31 _ NSt (spStInitR K CE CS CB) := ok_stinitR F31 U T ZB (PySem.W.mg_none_of X G z_isinstance) (PySem.W.mg_none_of X G z_bool) D kb9 GCR D10 GW D7 GSa D8 MB GBI FBI
  have GBE : FnOk lw.prog w K mg base CX0 1 f1 _ ["self", "other"] (spBEq K CB) := ok_beq F1 T ZB (PySem.W.mg_none_of X G z_isinstance)
  have GT : FnOk lw.prog w K mg base CX0 1 f12 _ ["_law_bag_here", "_law_many"] spTake2 := ok_take2 F12
  have GO : FnOk lw.prog w K mg base CX0 2 f13 _ ["_law_bag_here", "_law_some"] spOf := ok_of F13 B GT D12
  have GWa : FnOk lw.prog w K mg base CX0 1 f14 _ ["_law_number"] spWays := ok_ways F14 B
  have GT0 : Gu.FnG lw.prog w K mg base CX0 2 f24 _ ["fields"] (spTold (ItD K)) := ok_told0 F24
  have GPB : Gu.FnG lw.prog w K mg base CX0 3 f3 _ ["self"] (spBRepr K CB) := ok_brepr F3 T D GT0 D24
  have GT1 : Gu.FnG lw.prog w K mg base CX0 5 f24 _ ["fields"] (spTold (ItM K CB)) := ok_told1 F24 GPB b3 a3 i3 GBE b1 a1 i1 bne be4 bx_NoneType by_NoneType
  have GPS : Gu.FnG lw.prog w K mg base CX0 6 f4 _ ["self"] (spSRepr K CS CB) := ok_srepr F4 U (PySem.W.mg_none_of X G z_repr) GT1 D24 GPB b3 a3 i3
  exact ok_law l22 c22 (fun s v => .of_eq rfl) TBl BZ U T ⟨ok_bag2 F11 (PySem.W.mg_none_of X G z_len) (PySem.W.mg_none_of X G z_abs) (PySem.W.mg_none_of X G z_enumerate), D11⟩ ⟨GT, D12⟩ ⟨ok_right F17 B GT D12 GO D13 GWa D14, D17⟩ ⟨ok_odd F15 GO D13, D15⟩ ⟨ok_oddD F16 GO D13, D16⟩ ⟨GWa, D14⟩
    ⟨ok_lsetR F18 U MS GSR FSI, D18⟩ ⟨ok_lbookR F19 T MB GBR FBI, D19⟩ (ok_lwords F21 (PySem.W.mg_none_of X G z_repr)) D21 GPB b3 a3 i3 GPS b4 a4 i4 (ok_safe F5 U) b5 P5 NN XX (PySem.W.mg_of X G a20) k20 l20 c20 b20 hn e0 hP hS
theorem walk {l : PySem.W.OpenLaw} {q : Program} {loose : List Str} {XP : (Str → Option Value) → Heap → Prop} {YP : World → Heap → Prop} {d : DefRec} {K : Params → PySem.W.Frag} (hn : l.most = some 63) (hdf : d.params.defaults = [])
    (hY : ∀ (w : World) (h : Heap), YP w h → (K w.params).In h)
    (F : ∀ (w : World) (mg : Str → Option Value) (fa : Addr) (h : Heap), YP w h → (K w.params).In h → h.Ns mainGlobals mg → mg d.name = some (.ref fa) → Tp.LawT l w (K w.params) 63 mg fa h) :
    PySem.W.WalkO q loose XP YP l.row.toRowW d [] (fun f vs => PySem.call f vs) := Tp.walk_topT (n := 63) hn (by decide) hdf hY F
end Sc

open PySem PySem.W PyProof.Rows
set_option maxRecDepth 100000 in
set_option maxHeartbeats 0 in
theorem PySem.Challenge.cw_devicewindows_k20_settings_refused_and_s_holds : PySem.Challenge.rw_devicewindows_k20_settings_refused_and_s.Holds := by
  w_on; o_law; k_head; (case hw => w_witness2)
  k_fill
  refine Sc.walk (l := PySem.Challenge.rw_devicewindows_k20_settings_refused_and_s) rfl rfl (fun w h Y => by first | exact PySem.W.kIn_of Y | exact PySem.W.km_in_of Y) ?F
  case F =>
    intro w mg fa h Y KX G hmg
    refine' Sc.all_mk (pL := 266) KX G hmg ?aCB ?aCS ?aCE ?aCW ?aCV ?a1 ?i1 ?a3 ?i3 ?a4 ?i4 ?a30 ?i30 ?a31 ?i31 ?p15 ?p25 ?p35 ?p45 ?a6 ?a7 ?a8 ?a9 ?a10 ?a24 ?a11 ?a12 ?a13 ?a14 ?a15 ?a16 ?a17 ?a18 ?a19 ?a20 ?a21 ?a22 ?l1 ?c1 ?k1 ?l3 ?c3 ?k3 ?l4 ?c4 ?k4 ?l5 ?c5 ?k5 ?l6 ?c6 ?k6 ?l7 ?c7 ?k7 ?l8 ?c8 ?k8 ?l9 ?c9 ?k9 ?l10 ?c10 ?k10 ?l24 ?c24 ?k24 ?l11 ?c11 ?k11 ?l12 ?c12 ?k12 ?l13 ?c13 ?k13 ?l14 ?c14 ?k14 ?l15 ?c15 ?k15 ?l16 ?c16 ?k16 ?l17 ?c17 ?k17 ?l18 ?c18 ?k18 ?l19 ?c19 ?k19 ?l20 ?c20 ?k20 ?l21 ?c21 ?k21 ?l22 ?c22 ?k22 ?l30 ?c30 ?k30 ?d30_0 ?d30_1 ?d30_2 ?d30_3 ?d30_4 ?l31 ?c31 ?k31 ?d31_0 ?d31_1 ?d31_2 ?d31_3 ?d31_4 ?d31_5 ?d31_6 ?d31_7 ?d31_8 ?bpg ?bhd ?bpo ?bsa ?bmk ?bkc ?bn1 ?bn2 ?bn3 ?bn4 ?bn5 ?be1 ?be4 ?be5 ?bne ?spg ?shd ?spo ?ssa ?smk ?skc ?sn1 ?sn2 ?sn3 ?sn4 ?sn5 ?sn6 ?sn7 ?sn8 ?sn9 ?se1 ?se4 ?se5 ?sne ?e2 ?e3 ?bx_NoneType ?bx_bool ?bx_int ?bx_str ?bx_tuple ?bx_list ?bx_dict ?by_NoneType ?by_bool ?by_int ?by_str ?by_tuple ?by_list ?x_qq ?x_ov ?x_hd ?x_sa ?x_ex ?x_ty ?x_kc ?x_sb ?x_iC ?x_lk ?x_cd ?x_lc ?x_co ?x_vs ?x_fi ?x_top ?x_su ?x_mr ?x_si ?x_op ?x_tk ?x_tI ?x_sP ?x_ga ?x_gg ?x_nm ?x_c1 ?x_c4 ?k_W ?k_V ?k_E ?g_dT ?q_dT ?g_wT ?q_wT ?g_cT ?q_cT ?g_pT ?q_pT ?z_len ?z_abs ?z_enumerate ?z_range ?z_min ?z_max ?z_isinstance ?z_int ?z_bool ?z_tuple ?z_repr ?z_list ?z_zip ?z_ValueError ?hdL ?ntL ?tbL
    (case aCB => k_is)
    (case aCS => k_is)
    (case aCE => k_is)
    (case aCW => k_is)
    (case aCV => k_is)
    (case a1 => k_is)
    (case i1 => k_is)
    (case a3 => k_is)
    (case i3 => k_is)
    (case a4 => k_is)
    (case i4 => k_is)
    (case a30 => k_is)
    (case i30 => k_is)
    (case a31 => k_is)
    (case i31 => k_is)
    (case p15 => k_is)
    (case p25 => k_is)
    (case p35 => k_is)
    (case p45 => k_is)
    (case a6 => k_is)
    (case a7 => k_is)
    (case a8 => k_is)
    (case a9 => k_is)
    (case a10 => k_is)
    (case a24 => k_is)
    (case a11 => k_is)
    (case a12 => k_is)
    (case a13 => k_is)
    (case a14 => k_is)
    (case a15 => k_is)
    (case a16 => k_is)
    (case a17 => k_is)
    (case a18 => k_is)
    (case a19 => k_is)
    (case a20 => k_is)
    (case a21 => k_is)
    (case a22 => k_is)
    (case l1 => k_is)
    (case c1 => k_is)
    (case k1 => k_is)
    (case l3 => k_is)
    (case c3 => k_is)
    (case k3 => k_is)
    (case l4 => k_is)
    (case c4 => k_is)
    (case k4 => k_is)
    (case l5 => k_is)
    (case c5 => k_is)
    (case k5 => k_is)
    (case l6 => k_is)
    (case c6 => k_is)
    (case k6 => k_is)
    (case l7 => k_is)
    (case c7 => k_is)
    (case k7 => k_is)
    (case l8 => k_is)
    (case c8 => k_is)
    (case k8 => k_is)
    (case l9 => k_is)
    (case c9 => k_is)
    (case k9 => k_is)
    (case l10 => k_is)
    (case c10 => k_is)
    (case k10 => k_is)
    (case l24 => k_is)
    (case c24 => k_is)
    (case k24 => k_is)
    (case l11 => k_is)
    (case c11 => k_is)
    (case k11 => k_is)
    (case l12 => k_is)
    (case c12 => k_is)
    (case k12 => k_is)
    (case l13 => k_is)
    (case c13 => k_is)
    (case k13 => k_is)
    (case l14 => k_is)
    (case c14 => k_is)
    (case k14 => k_is)
    (case l15 => k_is)
    (case c15 => k_is)
    (case k15 => k_is)
    (case l16 => k_is)
    (case c16 => k_is)
    (case k16 => k_is)
    (case l17 => k_is)
    (case c17 => k_is)
    (case k17 => k_is)
    (case l18 => k_is)
    (case c18 => k_is)
    (case k18 => k_is)
    (case l19 => k_is)
    (case c19 => k_is)
    (case k19 => k_is)
    (case l20 => k_is)
    (case c20 => k_is)
    (case k20 => k_is)
    (case l21 => k_is)
    (case c21 => k_is)
    (case k21 => k_is)
    (case l22 => k_is)
    (case c22 => k_is)
    (case k22 => k_is)
    (case l30 => k_is)
    (case c30 => k_is)
    (case k30 => k_is)
    (case d30_0 => k_is)
    (case d30_1 => k_is)
    (case d30_2 => k_is)
    (case d30_3 => k_is)
    (case d30_4 => k_is)
    (case l31 => k_is)
    (case c31 => k_is)
    (case k31 => k_is)
    (case d31_0 => k_is)
    (case d31_1 => k_is)
    (case d31_2 => k_is)
    (case d31_3 => k_is)
    (case d31_4 => k_is)
    (case d31_5 => k_is)
    (case d31_6 => k_is)
    (case d31_7 => k_is)
    (case d31_8 => k_is)
    (case bpg => k_is)
    (case bhd => k_is)
    (case bpo => k_is)
    (case bsa => k_is)
    (case bmk => k_is)
    (case bkc => k_is)
    (case bn1 => k_is)
    (case bn2 => k_is)
    (case bn3 => k_is)
    (case bn4 => k_is)
    (case bn5 => k_is)
    (case be1 => k_is)
    (case be4 => k_is)
    (case be5 => first | kernel_rfl | rfl | decide +kernel)
    (case bne => k_is)
    (case spg => k_is)
    (case shd => k_is)
    (case spo => k_is)
    (case ssa => k_is)
    (case smk => k_is)
    (case skc => k_is)
    (case sn1 => k_is)
    (case sn2 => k_is)
    (case sn3 => k_is)
    (case sn4 => k_is)
    (case sn5 => k_is)
    (case sn6 => k_is)
    (case sn7 => k_is)
    (case sn8 => k_is)
    (case sn9 => k_is)
    (case se1 => k_is)
    (case se4 => k_is)
    (case se5 => first | kernel_rfl | rfl | decide +kernel)
    (case sne => k_is)
    (case e2 => k_is)
    (case e3 => k_is)
    (case bx_NoneType => first | kernel_rfl | rfl | decide +kernel)
    (case bx_bool => first | kernel_rfl | rfl | decide +kernel)
    (case bx_int => first | kernel_rfl | rfl | decide +kernel)
    (case bx_str => first | kernel_rfl | rfl | decide +kernel)
    (case bx_tuple => first | kernel_rfl | rfl | decide +kernel)
    (case bx_list => first | kernel_rfl | rfl | decide +kernel)
    (case bx_dict => first | kernel_rfl | rfl | decide +kernel)
    (case by_NoneType => k_is)
    (case by_bool => k_is)
    (case by_int => k_is)
    (case by_str => k_is)
    (case by_tuple => k_is)
    (case by_list => k_is)
    (case x_qq => first | kx_is | k_is | kernel_rfl)
    (case x_ov => first | kx_is | k_is | kernel_rfl)
    (case x_hd => k_is)
    (case x_sa => k_is)
    (case x_ex => k_is)
    (case x_ty => k_is)
    (case x_kc => k_is)
    (case x_sb => k_is)
    (case x_iC => k_is)
    (case x_lk => k_is)
    (case x_cd => k_is)
    (case x_lc => k_is)
    (case x_co => k_is)
    (case x_vs => first | rfl | k_is | kernel_rfl)
    (case x_fi => first | rfl | kernel_rfl | decide +kernel)
    (case x_top => first | rfl | kernel_rfl | decide +kernel)
    (case x_su => k_is)
    (case x_mr => k_is)
    (case x_si => first | k_is | kernel_rfl | rfl)
    (case x_op => k_is)
    (case x_tk => k_is)
    (case x_tI => k_is)
    (case x_sP => k_is)
    (case x_ga => k_is)
    (case x_gg => k_is)
    (case x_nm => k_is)
    (case x_c1 => k_is)
    (case x_c4 => k_is)
    (case k_W => first | kernel_rfl | rfl | decide +kernel)
    (case k_V => first | kernel_rfl | rfl | decide +kernel)
    (case k_E => first | kernel_rfl | rfl | decide +kernel)
    (case g_dT => k_is)
    (case q_dT => k_is)
    (case g_wT => k_is)
    (case q_wT => k_is)
    (case g_cT => k_is)
    (case q_cT => k_is)
    (case g_pT => k_is)
    (case q_pT => k_is)
    (case z_len => k_is)
    (case z_abs => k_is)
    (case z_enumerate => k_is)
    (case z_range => k_is)
    (case z_min => k_is)
    (case z_max => k_is)
    (case z_isinstance => k_is)
    (case z_int => k_is)
    (case z_bool => k_is)
    (case z_tuple => k_is)
    (case z_repr => k_is)
    (case z_list => k_is)
    (case z_zip => k_is)
    (case z_ValueError => k_is)
    (case hdL => first | k_is | kernel_rfl)
    (case ntL => first | k_is | kernel_rfl)
    (case tbL => exact PySem.W.km_tabs_of Y _ (by decide))
