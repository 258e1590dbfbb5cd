import PyProof.Rows.All
import Wide.All
import OpenK.AllK
import Wide.FinOn
import HandS.ForMost
import HandS.Wide
import HandS.ClsMeth
import HandS.Property
import HandS.More
import HandS.Conv
import HandS.Codes
import HandS.Style
import HandS.IsInst
import HandS.OwnEq
import HandS.MakeKwOnly
import HandS.Words
import HandS.ForExc
import HandS.ListItems
import HandS.SortOrd
import HandS.SortRule
import HandS.Defaults
import HandS.CallLocal
import HandS.WrittenGet
import PyProof.InstEq
import PyProof.NeKinds
import HandS.Ends
import HandS.Lambda
import PyProof.Rows.ReprR
import PyProof.Rows.RegFStrParts
import PyProof.CallFns
import HandS.List
import KE.KExcLine
import PySem.Challenge.RW_devicewindows_k19_books_and_settings_mad
set_option Elab.async false
set_option linter.all false
set_option maxRecDepth 100000
set_option maxHeartbeats 4000000
/-! Rules of one's own: a class called by a local name, static methods, operators of own classes. -/
namespace Ow
open PySem PySem.Spec PyProof.Rows L2
/-- an own def called at some around -/
theorem run_own {X : Cx} {CX : CXT} {k : Nat} {f : Addr} {fd : FuncData} {ps : List Str} {sp : Sp} {E : XK} {A : Around} {pins : List (Addr × Obj)} {σ : L2.St} {H : Hp} {s : Shared} {Q : VK} {us : List Value} {vs : List V}
    (F : FnOk X.prog X.w X.K X.mg X.base CX k f fd ps sp) (hr : Room k A) (e0 : Env0 X.prog X.w X.K X.mg X.base A X.stack s H) (hb : Binds X.K fd ps []) (hx : Passes CX X E) (I : Inv X pins σ H s) (r : Vals vs us) (h : sp vs H Q E) :
    wpAny (model X.prog X.w) A (call (.ref f) us) (EP X pins σ Q) X.xe s := by
  have hl : us.length = ps.length := by rw [← r.length]; exact F.len _ _ _ _ h
  refine wpAny_call (codeAny_mono (F.run A X.stack s H ⟨us, []⟩ us vs Q E hr e0 (by
    have z := hb s us I.kIn (by simpa using hl)
    simpa using z) r h) fun q s' hq => ?_)
  cases q with
  | error e => exact hx pins σ H s e s' I hq
  | ok fl =>
    cases fl with
    | ret w => exact I.after hq
    | next => exact False.elim hq
    | brk => exact False.elim hq
    | cont => exact False.elim hq
section
variable {X : Cx} {CX : CXT} {k i : Nat} {f C p g : Addr} {mc : Value} {fd : FuncData} {ps : List Str} {sp : Sp} {dvs : List V} {ds : List Value} {E : XK} {x m : Str} {px pos apos : Pos} {o e : Expr} {es : List Expr} {ta : TE} {t : TA} {pl : Sem Bool}
/-- x(e, ..), the i-th slot holds the class at C -/
def tMakeL (i : Nat) (C : Addr) (sp : Sp) (dvs : List V) (E : XK) (t : TA) : TE := fun σ H Q => σ[i]? = some (some (.ref C)) ∧ tMake C sp dvs E t σ H Q
theorem pe_makeL (M : Mk X.K C f) (F : FnOk X.prog X.w X.K X.mg X.base CX k f fd ps sp) (hr : Room (k + 1) X.A) (hN : X.N[i]? = some x) (hv : Vis X.env.scope x) (hb : Binds X.K fd ps ds) (hd : Vals dvs ds) (hx : Passes CX X E)
    (ha : PA X (e :: es) t) (hdb : (x == ("__debug__" : Str)) = false := by decide) (hcd : (x == ("__classdict__" : Str)) = false := by decide) (he : starEach (e :: es) X.env = (false, eval e X.env) :: starEach es X.env := by rfl) (hpl : (backTo pos (starEach es X.env)).any (·.1) = false := by rfl) :
    PE X (.Call (.Name x px) (e :: es) [] pos) (tMakeL i C sp dvs E t) := by
  refine ⟨fun pins s σ H Q I h => ?_⟩
  obtain ⟨hs, ht⟩ := h
  refine wpAny_Call_Name_kw (thn ((pe_var (pos := px) hN hv hdb hcd).run pins s σ H (fun v H1 => v = .ref C ∧ H1 = H) I ⟨.ref C, hs, rfl, rfl⟩) fun u s1 ⟨v, H1, I1, r1, q1⟩ => ?_)
  obtain ⟨rfl, rfl⟩ := q1
  cases r1
  refine PySem.W.callWith_K (h₀ := X.base) I1.ok.mod.kin M.kp (thn (ha.run pos pins s1 σ _ _ I1 ht) fun us s2 ⟨vs, H2, I2, r, q⟩ => ⟨I2.kIn, ?_⟩) he hpl
  exact run_make M F hr hb hd hx I2 r q
/-- C.m is a static method: its record at p, its def at g -/
structure SMet (K : PySem.W.Frag) (C : Addr) (mc : Value) (m : Str) (p g : Addr) : Prop where
  at_ : PySem.W.findCls K (.ref C) mc m = some (.get (.builtin "staticmethod.__get__") (.ref p) .none (.ref C))
  rc : ∃ rest, PySem.W.recIn K p "staticmethod" = some (.ref g :: rest)
  kp : PySem.W.keepIn K (.ref g) = true
def tSMeth (C : Addr) (sp : Sp) (dvs : List V) (E : XK) (ta : TE) (t : TA) : TE := fun σ H Q => ta σ H fun x H1 => x = .ref C ∧ t σ H1 fun vs H2 => sp (vs ++ dvs) H2 Q E
theorem pe_smeth (he : PE X o ta) (r : ClX.CRead X.K C mc) (c : SMet X.K C mc m p g) (F : FnOk X.prog X.w X.K X.mg X.base CX k g fd ps sp) (hr : Room k X.A) (hb : Binds X.K fd ps ds) (hd : Vals dvs ds) (hx : Passes CX X E) (ha : PA X (e :: es) t)
    (hst : starEach (e :: es) X.env = (false, eval e X.env) :: starEach es X.env := by rfl) (hpl : (backTo pos (starEach es X.env)).any (·.1) = false := by rfl)
    (ht : eval (.Call (.Attribute o m apos) (e :: es) [] pos) X.env = (do
      let ov ← eval o X.env
      standAt apos.atName
      let (f, first) ← holding [ov] (getMethod ov m pl)
      callWith pos f first (backTo pos (starEach (e :: es) X.env)) (backToKw pos (keywordEach [] X.env))) := by rfl) :
    PE X (.Call (.Attribute o m apos) (e :: es) [] pos) (tSMeth C sp dvs E ta t) := by
  refine ⟨fun pins s σ H Q I h => ?_⟩
  refine PySem.W.methodCall_KW (pl := pl) (thn (he.run pins s σ H _ I h) fun u s1 ⟨x, H1, I1, rx, ex, q⟩ => ?_) ht
  subst ex
  obtain rfl : u = Value.ref C := rx
  obtain ⟨rest, hp⟩ := c.rc
  refine PySem.W.method_cls I1.kIn r.ga (PySem.W.cls_bind I1.kIn r.rd c.at_ (wpAny_call (PySem.W.sm_get (s := { s1 with toks := s1.toks + 1 }) I1.kIn hp (PySem.W.handed_on rfl ?_))))
  have I2 := I1.tok (s1.toks + 1)
  refine PySem.W.callWith_K (h₀ := X.base) I2.ok.mod.kin c.kp (thn (ha.run pos pins _ σ H1 _ I2 q) fun us s2 ⟨vs, H2, I3, r, q2⟩ => ⟨I3.kIn, ?_⟩) hst hpl
  exact run_fn F hr hb hd hx I3 r q2
end
/-! ### operators of an own class -/
section
variable {X : Cx} {CX : CXT} {k : Nat} {C f : Addr} {fd : FuncData} {ps : List Str} {sp : Sp} {E : XK}
/-- a op b, both instances of C, C has the method -/
def rBin (C : Addr) (sp : Sp) (E : XK) : R2 := fun x y H Q => ∃ a b dx dy fs gs, x = .ref a ∧ y = .ref b ∧ H a = some (.ins C dx fs) ∧ H b = some (.ins C dy gs) ∧ sp [.ref a, .ref b] H (fun v H' => (∀ c, v ≠ .ty c) ∧ Q v H') E
/-- len(o) -/
def rLenO (C : Addr) (sp : Sp) (E : XK) : List V → Hp → VK → Prop := fun xs H Q => ∃ a dx fs, xs = [.ref a] ∧ H a = some (.ins C dx fs) ∧ sp [.ref a] H (fun v H' => ∃ n : Int, v = .int n ∧ 0 ≤ n ∧ n < 2 ^ 63 ∧ Q (.int n) H') E
theorem call_lenO (F : FnOk X.prog X.w X.K X.mg X.base CX k f fd ps sp) (hr : Room (k + 1) X.A) (hs : PySem.W.findIn X.K (.ref C) "__len__" = some (some (.ref f))) (hf : PySem.W.isFn X.K (.ref f) = true) (hb : Binds X.K fd ps []) (hx : Passes CX X E) :
    CallR X (.builtin "len") (rLenO C sp E) := by
  intro pins s σ H xs us Q I r h
  obtain ⟨a, dx, fs, rfl, ha, q⟩ := h
  obtain ⟨u, rfl, ru⟩ := vals1 r
  obtain rfl : u = Value.ref a := ru
  obtain ⟨mA, J, _⟩ := ins_get I.hok ha
  obtain ⟨od, J, _⟩ := J.look
  obtain ⟨m, hF⟩ := I.fr
  refine PySem.W.len_K hF I.ok.mod.kin J hs hf (wpAny_mono (run_own F hr.in1 I.env0.in1 hb hx I (vs := [.ref a]) (.cons (show RelV (.ref a) (.ref a) from rfl) .nil) q) (fun v s' hq => ?_) fun _ _ z => z)
  obtain ⟨w, H', I', rw', n, rfl, n0, n1, q'⟩ := hq
  obtain ⟨t, rfl⟩ := rw'
  exact ⟨⟨n0, n1⟩, .int n, H', I'.tok _, ⟨_, rfl⟩, q'⟩
/-- x in o -/
def rInO (C : Addr) (sp : Sp) (E : XK) : R2 := fun x y H Q => ∃ a dx fs, y = .ref a ∧ H a = some (.ins C dx fs) ∧ sp [.ref a, x] H (fun v H' => ∃ b, v = .bl b ∧ Q (.bl b) H') E
theorem op_inO (F : FnOk X.prog X.w X.K X.mg X.base CX k f fd ps sp) (hr : Room k X.A) (hs : PySem.W.findIn X.K (.ref C) "__contains__" = some (some (.ref f))) (hf : PySem.W.isFn X.K (.ref f) = true) (hb : Binds X.K fd ps []) (hx : Passes CX X E) :
    OpR X (compareOp .In) (rInO C sp E) := by
  intro pins s σ H x y v u Q I rx ry h
  obtain ⟨a, dx, fs, rfl, ha, q⟩ := h
  obtain rfl : u = Value.ref a := ry
  obtain ⟨mA, J, _⟩ := ins_get I.hok ha
  obtain ⟨od, J, _⟩ := J.look
  obtain ⟨m, hF⟩ := I.fr
  refine PySem.W.in_K hF I.ok.mod.kin J hs hf (wpAny_mono (run_own F hr I.env0 hb hx I (vs := [.ref a, x]) (.cons (show RelV (.ref a) (.ref a) from rfl) (.cons rx .nil)) q) (fun v s' hq => ?_) fun _ _ z => z)
  obtain ⟨w, H', I', rw', b, rfl, q'⟩ := hq
  cases rw'
  exact wpAny_truthy_bool ⟨.bl b, H', I', rfl, q'⟩
/-- a op b of two instances of C by C's own method -/
theorem op_bin {op : Operator} (F : FnOk X.prog X.w X.K X.mg X.base CX k f fd ps sp) (hr : Room k X.A) (hc : PySem.W.selfFirst X.K C = true) (hs : PySem.W.findIn X.K (.ref C) (PySem.dunder op.info.2) = some (some (.ref f))) (hf : PySem.W.isFn X.K (.ref f) = true) (hb : Binds X.K fd ps []) (hx : Passes CX X E) :
    OpR X (binaryOp op) (rBin C sp E) := by
  intro pins s σ H x y v u Q I rx ry h
  obtain ⟨a, b, dx, dy, fs, gs, rfl, rfl, ha, hb', q⟩ := h
  obtain rfl : v = Value.ref a := rx
  obtain rfl : u = Value.ref b := ry
  obtain ⟨mA, J, _⟩ := ins_get I.hok ha
  obtain ⟨mB, J', _⟩ := ins_get I.hok hb'
  obtain ⟨od, J, _⟩ := J.look
  obtain ⟨od', J', _⟩ := J'.look
  obtain ⟨m, hF⟩ := I.fr
  refine PySem.W.binop_K hF I.ok.mod.kin J J'.type hc hs hf (wpAny_mono (run_own F hr I.env0 hb hx I (vs := [.ref a, .ref b]) (.cons (show RelV (.ref a) (.ref a) from rfl) (.cons (show RelV (.ref b) (.ref b) from rfl) .nil)) q) (fun w s' hq => ?_) fun _ _ z => z)
  obtain ⟨z, H', I', rw', nt, q'⟩ := hq
  cases z with
  | ty c => exact absurd rfl (nt c)
  | non => cases rw'; exact ⟨.non, H', I', rfl, q'⟩
  | bl c => cases rw'; exact ⟨.bl c, H', I', rfl, q'⟩
  | int n => obtain ⟨t, rfl⟩ := rw'; exact ⟨.int n, H', I', ⟨t, rfl⟩, q'⟩
  | str n => obtain ⟨t, rfl⟩ := rw'; exact ⟨.str n, H', I', ⟨t, rfl⟩, q'⟩
  | byt n => obtain ⟨t, rfl⟩ := rw'; exact ⟨.byt n, H', I', ⟨t, rfl⟩, q'⟩
  | flt n => obtain ⟨t, rfl⟩ := rw'; exact ⟨.flt n, H', I', ⟨t, rfl⟩, q'⟩
  | ref c => cases rw'; exact ⟨.ref c, H', I', rfl, q'⟩
/-- a == y, a an instance of C with its own __eq__, y of a type that does not go first -/
def rEqO (K : PySem.W.Frag) (C : Addr) (sp : Sp) (E : XK) : R2 := fun x y H Q => ∃ a dx fs t, x = .ref a ∧ H a = some (.ins C dx fs) ∧ TyX K H y t ∧ PySem.W.notFirst K C t = true ∧ sp [.ref a, y] H (fun v H' => ∃ b, v = .bl b ∧ Q (.bl b) H') E
theorem op_eqO (F : FnOk X.prog X.w X.K X.mg X.base CX k f fd ps sp) (hr : Room k X.A) (hs : PySem.W.findIn X.K (.ref C) "__eq__" = some (some (.ref f))) (hf : PySem.W.isFn X.K (.ref f) = true) (hb : Binds X.K fd ps []) (hx : Passes CX X E) :
    OpR X (compareOp .Eq) (rEqO X.K C sp E) := by
  intro pins s σ H x y v u Q I rx ry h
  obtain ⟨a, dx, fs, t, rfl, ha, ty, hn, q⟩ := h
  obtain rfl : v = Value.ref a := rx
  obtain ⟨mA, J, _⟩ := ins_get I.hok ha
  obtain ⟨od, J, _⟩ := J.look
  obtain ⟨m, hF⟩ := I.fr
  obtain ⟨P, kx, hP, _⟩ := kit_of I ry ty
  show wpAny _ _ (richCompare .Eq (.ref a) u) _ _ _
  refine PySem.W.cmp_K (op := .Eq) (tb := t) hr.units0 hF I.ok.mod.kin J (kx.ty _ _ I.kIn hP) hn hs hf (wpAny_mono (run_own F hr I.env0 hb hx I (vs := [.ref a, y]) (.cons (show RelV (.ref a) (.ref a) from rfl) (.cons ry .nil)) q) (fun w s' hq => ?_) fun _ _ z => z)
  obtain ⟨z, H', I', rw', b, rfl, q'⟩ := hq
  cases rw'
  exact ⟨.bl b, H', I', rfl, q'⟩
end
end Ow
/-! Class methods and classes called by keywords alone; defs without defaults. -/
namespace Kc
open PySem PySem.Spec PyProof.Rows L2
section
variable {K : PySem.W.Frag} {x qual : Str} {st : Stmt} {f : Addr} {fd : FuncData}
/-- one value by its place, two by their names, the later one first -/
theorem kbn_swap {p0 p1 p2 : Str} (F : Fun K x qual st f fd)
    (h : ∀ (kV doc pm : Value) (an : Option Addr) (cdv ct : Value) (u a b : Value), bindArgs (PySem.W.fnOf x qual (defArgs st) (defBody st) (defScope st) .none kV doc pm an cdv ct) ⟨[u], [(p2, a), (p1, b)]⟩ = pure ([p0, p1, p2].zip [u, b, a])) :
    KBn K fd [p0, p1, p2] 1 [p2, p1] (fun us ws => us ++ ws.reverse) (fun vs zs => vs ++ zs.reverse) := by
  obtain ⟨oc, od, kV, doc, pm, an, cdv, ct, osl, rfl, _, _⟩ := F.ex
  refine ⟨fun s us ws _ l1 l2 => ?_, fun r1 r2 => r1.append r2.reverse⟩
  obtain ⟨u, rfl⟩ : ∃ u, us = [u] := List.length_eq_one_iff.mp l1
  obtain ⟨a, b, rfl⟩ : ∃ a b, ws = [a, b] := match ws, l2 with
    | [a, b], _ => ⟨a, b, rfl⟩
  exact .of_eq (h kV doc pm an cdv ct u a b)
end
/-- o.m(k = v, ..), o the class at C, m a classmethod -/
def tCMethK (C : Addr) (n : Nat) (sp : Sp) (gV : List V → List V → List V) (E : XK) (ta : TE) (tk : TA) : TE := fun σ H Q => ta σ H fun x H1 => x = .ref C ∧ tk σ H1 fun zs H2 => zs.length = n ∧ sp (gV [.ref C] zs) H2 Q E
section
variable {X : Cx} {CX : CXT} {k : Nat} {C p g : Addr} {mc : Value} {fd : FuncData} {ps ks : List Str} {sp : Sp} {E : XK} {o : Expr} {kws : List Keyword} {m : Str} {pos apos : Pos} {ta : TE} {tk : TA} {pl : Sem Bool} {gg : List Value → List Value → List Value} {gV : List V → List V → List V}
theorem pe_cmethK0 (he : PE X o ta) (r : ClX.CRead X.K C mc) (c : ClX.CMet X.K C mc m p g) (F : FnOk X.prog X.w X.K X.mg X.base CX k g fd ps sp) (hb : KBn X.K fd ps 1 ks gg gV) (hr : Room k X.A) (hx : Passes CX X E) (hkw : PK X kws tk)
    (hall : (backToKw pos (keywordEach kws X.env)).all (·.1.isSome) = true := by rfl) (hks : (backToKw pos (keywordEach kws X.env)).filterMap (·.1) = ks := by rfl)
    (hpl : ((backTo pos (starEach [] X.env)).any (·.1) || (backToKw pos (keywordEach kws X.env)).any (·.1.isNone)) = false := by rfl)
    (ht : eval (.Call (.Attribute o m apos) [] kws pos) X.env = (do
      let v ← eval o X.env
      standAt apos.atName
      let (fv, fst) ← holding [v] (getMethod v m pl)
      callWith pos fv fst (backTo pos (starEach [] X.env)) (backToKw pos (keywordEach kws X.env))) := by rfl) :
    PE X (.Call (.Attribute o m apos) [] kws pos) (tCMethK C ks.length sp gV E ta tk) := by
  refine ⟨fun pins s σ H Q I h => ?_⟩
  refine PySem.W.methodCall_KW (pl := pl) (thn (he.run pins s σ H _ I h) fun u s1 hh => ?_) ht
  obtain ⟨x, H1, I1, rx, ex, q⟩ := hh
  subst ex
  cases rx
  refine ClX.getmethcm_ok I1 r c fun s2 I2 => ?_
  refine PySem.W.callWith_of (first := []) hpl (PySem.W.keeps_M (K := X.K) (self := .ref C) c.fi) (evalArgs_kw2_nil hall (thn (hkw.run pos _ s2 σ H1 _ I2 q) fun ws s3 hh2 => ?_))
  obtain ⟨zs, H2, I3, rz, l2, q2⟩ := hh2
  refine ⟨⟨ClX.pin_at I3, I3.kIn⟩, ?_⟩
  rw [hks]
  have r2 : Vals (gV [.ref C] zs) (gg [.ref C] ws) := hb.rel (.cons rfl .nil) rz
  have z : wpAny (model X.prog X.w) X.A (call (.ref s1.heap.objs.size) [] (ks.zip ws)) (EP X ((s1.heap.objs.size, PySem.W.methodObj (.ref g) (.ref C)) :: pins) σ Q) X.xe s3 := by
    refine wpAny_call (PySem.W.method_call (ClX.pin_at I3) (codeAny_mono (F.run X.A X.stack s3 H2 ⟨[.ref C], ks.zip ws⟩ (gg [.ref C] ws) (gV [.ref C] zs) Q E hr I3.env0 (hb.to s3 [.ref C] ws I3.kIn rfl (rz.length.symm.trans l2)) r2 q2) fun r s' hq => ?_))
    cases r with
    | error e => exact hx _ σ H2 s3 e s' I3 hq
    | ok fl =>
      cases fl with
      | ret w => exact I3.after hq
      | next => exact False.elim hq
      | brk => exact False.elim hq
      | cont => exact False.elim hq
  exact thn z fun _ _ y => ClX.unpinE y
end
end Kc
namespace Sc
open PySem L2
def top (i : Nat) : Stmt := PySem.Challenge.pw_devicewindows_k19_books_and_settings_mad.main.body.getD i (.Pass ⟨0, 0, 0, 0⟩)
abbrev s__wall : Stmt := top 0
abbrev s_BadSetting___init__ : Stmt := inClass (top 3) 0
abbrev s_integer : Stmt := top 5
abbrev s_whole : Stmt := top 6
abbrev s_Book___init__ : Stmt := inClass (top 12) 0
abbrev s_Book___eq__ : Stmt := inClass (top 12) 1
abbrev s_Book___repr__ : Stmt := inClass (top 12) 2
abbrev s_Setting___init__ : Stmt := inClass (top 13) 0
abbrev s_Setting_safe : Stmt := inClass (top 13) 1
abbrev s_Setting___eq__ : Stmt := inClass (top 13) 2
abbrev s_Setting___repr__ : Stmt := inClass (top 13) 3
abbrev s__same_book : Stmt := top 14
abbrev s__are_directions : Stmt := top 15
abbrev s__check : Stmt := top 16
abbrev s__told : Stmt := top 17
abbrev s__law_bag : Stmt := top 19
abbrev s__law_take : Stmt := top 20
abbrev s__law_of : Stmt := top 21
abbrev s__law_ways : Stmt := top 22
abbrev s__law_arguments : Stmt := top 23
abbrev s__law_book : Stmt := top 24
abbrev s__law_setting : Stmt := top 25
abbrev s__law_duties : Stmt := top 26
abbrev s__law_shows : Stmt := top 27
abbrev s__law_changed : Stmt := top 28
abbrev s__law_full : Stmt := top 29
abbrev s_law : Stmt := top 30
end Sc
/-! Two rules of one's own: storing to a slice of a list; sorting the items of a dict with int keys and bool values. -/
namespace Ln
open PySem PySem.Spec PyProof.Rows L2
/-! ### xs[a:c] = ys -/
/-- the target's reading: the list at l, its bounds, the other list at b -/
def gSlice (to tl th : TE) : TG := fun v σ H Q => to σ H fun x H1 => tl σ H1 fun y H2 => th σ H2 fun z H3 =>
  ∃ (l b : Addr) (xs ys : List V) (a c : Int), x = .ref l ∧ v = .ref b ∧ y = .int a ∧ z = .int c ∧ H3 l = some (.lst xs) ∧ H3 b = some (.lst ys) ∧ l ≠ b ∧ 0 ≤ a ∧ a ≤ c ∧ c ≤ xs.length ∧ xs.length + ys.length ≤ sizeLine ∧
    Q σ (upd H3 l (.lst (xs.take a.toNat ++ ys ++ xs.drop c.toNat)))
section
variable {X : Cx} {pos : Pos}
theorem pg_slice {o lo hi : Expr} {p2 : Pos} {to tl th : TE} (ho : PE X o to) (hl : PE X lo tl) (hh : PE X hi th)
    (ha : ∀ v, assign (.Subscript o (.Slice (some lo) (some hi) none p2) pos) X.env v = (do
      let ov ← holding [v] (eval o X.env)
      let iv ← holding [v, ov] (eval (.Slice (some lo) (some hi) none p2) X.env)
      standAt pos
      holding [v, ov, iv] (setItem ov iv v)
      release [iv, v, ov] []) := by intro _; rfl) : PG X (.Subscript o (.Slice (some lo) (some hi) none p2) pos) (gSlice to tl th) := by
  refine ⟨fun pins s σ H v u Q I r h => ?_⟩
  rw [ha]
  refine wpAny_bind (wpAny_holding (thn (ho.run pins s σ H _ I h) fun ov s1 ⟨x, H1, I1, r1, q1⟩ => ?_))
  refine wpAny_bind (wpAny_holding (wpAny_Slice ?_))
  rw [evalPart_some, evalPart_some]
  refine thn (hl.run pins s1 σ H1 _ I1 q1) fun vl s2 ⟨y, H2, I2, r2, q2⟩ => ?_
  refine thn (hh.run pins s2 σ H2 _ I2 q2) fun vu s3 ⟨z, H3, I3, r3, q3⟩ => ?_
  rw [evalPart_none]
  refine wpAny_pure ?_
  obtain ⟨l, b, xs, ys, a, c, rfl, rfl, rfl, rfl, e1, e2, ne, h0, hac, hc, hz, q⟩ := q3
  obtain rfl : ov = Value.ref l := r1
  obtain rfl : u = Value.ref b := r
  have I4 : Inv X pins σ H3 { s3 with heap := s3.heap.push { cls := .type "slice", data := .fields #[vl, vu, .none] } } := I3.kept (t' := s3.toks) fun b ob q => Heap.get?_push_of_some _ q
  refine wpAny_bind (wpAny_standAt (wpAny_bind (wpAny_holding (set_slice I4 e1 e2 ne (Heap.IsSliceOf.new ..) r2 r3 h0 hac hc hz fun s' I' => ?_))))
  exact wpAny_release ⟨σ, _, I', q⟩
end
/-! ### sorted(d.items()): int keys, bool values -/
abbrev ltK (k : Value → Int) (v u : Value) : Bool := decide (k v < k u)
theorem swo_K (k : Value → Int) : SrtO.Swo (ltK k) := by
  refine ⟨fun x y h => ?_, fun x y z h1 h2 => ?_⟩
  · have a : k x < k y := of_decide_eq_true h
    exact decide_eq_false (by omega)
  · have a : ¬ k y < k x := of_decide_eq_false h1
    have b : ¬ k z < k y := of_decide_eq_false h2
    exact decide_eq_false (by omega)
end Ln
/-! A parameter with a default, written by its name. -/
namespace Kd
open PySem PySem.Spec PyProof.Rows L2
section
variable {K : PySem.W.Frag} {x qual : Str} {params : Arguments} {body : List Stmt} {scope : Scope} {dvs : List V} {kws : List (Str × V)} {f : Addr} {fd : FuncData} {ps : List Str}
/-- all parameters are written: n by their places, the rest by their names in their order; the defaults are read and left -/
theorem kbn_app (F : FunD K x qual params body scope dvs kws f fd) (n : Nat) (ks : List Str) (hd : dvs ≠ [])
    (h : ∀ (T : Addr) (kV doc pm : Value) (an : Option Addr) (cdv ct : Value) (us its ws : List Value), us.length = n → its.length = dvs.length → ws.length = ks.length →
      ∃ k, bindArgs (PySem.W.fnOf x qual params body scope (.ref T) kV doc pm an cdv ct) ⟨us, ks.zip ws⟩ = seqItems? (.ref T) >>= k ∧ k (some its.toArray) = pure (ps.zip (us ++ ws))) :
    KBn K fd ps n ks (fun us ws => us ++ ws) (fun vs zs => vs ++ zs) := by
  obtain ⟨oc, od, dV, kV, doc, pm, an, cdv, ct, osl, rfl, lk, hcd, hD, hK⟩ := F.ex
  rcases hD with ⟨e, _⟩ | ⟨_, T, o, its, m, rfl, lT, oT, rT⟩
  · exact absurd e hd
  · refine ⟨fun s us ws X l1 l2 => ?_, fun r1 r2 => r1.append r2⟩
    obtain ⟨k, e1, e2⟩ := h T kV doc pm an cdv ct us its ws l1 rT.length.symm l2
    refine BindsTo.of_looks fun M => ?_
    rw [e1]
    exact looks_items X lT oT (.of_pure e2)
end
end Kd
/-! integer and whole, for a program without the class Run. -/
namespace Sc
open PySem L2
structure Def (K : PySem.W.Frag) (mg : Str → Option Value) (x : Str) (f : Addr) (fd : FuncData) (ps : List Str) : Prop where
  at_ : mg x = some (.ref f)
  kp : PySem.W.keepIn K (.ref f) = true
  bd : Binds K fd ps []
theorem put_same {H : Hp} {p : Addr} {o : HO} (h : H p = none) : Same H (upd H p o) := fun b u e => by rw [upd_ne (ne_of_none e h)]; exact e
theorem eqv_self {d : PyData} (h : SeqAt.shaped d = true) : PyData.eqv d d = true := SeqAt.eqv_refl _ (SeqAt.canLay_of_shaped h)
theorem paired_snoc {α β : Type} {F : α → β → Prop} {x : α} {y : β} (r : F x y) : ∀ {xs : List α} {ys : List β}, Paired F xs ys → Paired F (xs ++ [x]) (ys ++ [y])
  | _, _, .nil => .cons r .nil
  | _, _, .cons a t => .cons a (paired_snoc r t)
theorem paired_len {α β : Type} {F : α → β → Prop} : ∀ {xs : List α} {ys : List β}, Paired F xs ys → xs.length = ys.length
  | _, _, .nil => rfl
  | _, _, .cons _ t => by rw [List.length_cons, List.length_cons, paired_len t]
theorem paired_ith {α β : Type} {F : α → β → Prop} : ∀ {xs : List α} {ys : List β}, Paired F xs ys → ∀ {i : Nat} {x : α} {y : β}, xs[i]? = some x → ys[i]? = some y → F x y
  | _, _, .nil, i, x, y, h, _ => by simp at h
  | _, _, .cons r t, 0, x, y, h, k => by
    have e := Option.some.inj h
    have e2 := Option.some.inj k
    subst e; subst e2
    exact r
  | _, _, .cons r t, i + 1, x, y, h, k => paired_ith t (i := i) h k
structure IsR (K : PySem.W.Frag) (C : Addr) : Prop where
  ha : PySem.W.findIn K (.ref C) "__class__" = some (some (.builtin "object.__class__"))
  hn : PySem.W.specialIn K (.builtin "object.__class__") "__get__" = some (some (.builtin "getset_descriptor.__get__"))
  htk : PySem.W.takesIn K (.builtin "object.__class__") = some true
  hm : PySem.W.mroIn K C (.type "object") = some true
  ki : PySem.W.kitOne K (.ref C) (.type "int") = some false
theorem kit_self {K : PySem.W.Frag} {C : Addr} : PySem.W.kitOne K (.ref C) (.ref C) = some true := by
  unfold PySem.W.kitOne
  rw [if_pos (by simp)]
structure NB (mg : Str → Option Value) : Prop where
  isi : mg "isinstance" = none
  int : mg "int" = none
  bool : mg "bool" = none
  tuple : mg "tuple" = none
def spInteger (K : PySem.W.Frag) : Sp := fun vs H Q _ => ∃ x : V, vs = [x] ∧ ((∃ v, x = .int v ∧ Q (.bl true) H) ∨ (∃ b, x = .bl b ∧ Q (.bl false) H) ∨ ∃ t, TyX K H x t ∧ PySem.W.kitOne K t (.type "int") = some false ∧ Q (.bl false) H)
def spWhole (K : PySem.W.Frag) : Sp := fun vs H Q _ => ∃ (x : V) (lo hi : Int), vs = [x, .int lo, .int hi] ∧
  ((∃ v, x = .int v ∧ Q (.bl (decide (lo ≤ v ∧ v ≤ hi))) H) ∨ (∃ b, x = .bl b ∧ Q (.bl false) H) ∨ ∃ t, TyX K H x t ∧ PySem.W.kitOne K t (.type "int") = some false ∧ Q (.bl false) H)
section
variable {P : Program} {w : World} {K : PySem.W.Frag} {mg : Str → Option Value} {base : Heap}
theorem scInteger : FnScope ["value"] ["value"] (defScope s_integer) := ⟨rfl, rfl, rfl, by decide +kernel, rfl, by decide +kernel, by decide +kernel⟩
theorem ok_integer {f : Addr} {fd : FuncData} (F : Fun K "integer" "integer" s_integer f fd) (T : NB mg) : FnOk P w K mg base CX0 1 f fd ["value"] (spInteger K) := by
  refine F.ok scInteger (fun vs H Q E h => ?_) (fun cdv A outer s H vs Q E hr h => ?_)
  · obtain ⟨x, rfl, _⟩ := h
    rfl
  · obtain ⟨x, rfl, h⟩ := h
    refine ⟨_, pss_one (ps_ret (pe_and (pe_callB call_isi (by rfl) T.isi (by decide +kernel) (pa_cons (pv 0) (pa_cons (pe_bltn (v := .ty "int") (by rfl) T.int (by decide +kernel) rfl) pa_nil)))
      (pe_one (pe_not (pe_callB call_isi (by rfl) T.isi (by decide +kernel) (pa_cons (pv 0) (pa_cons (pe_bltn (v := .ty "bool") (by rfl) T.bool (by decide +kernel) rfl) pa_nil))))))), ?_⟩
    rcases h with ⟨v, rfl, q⟩ | ⟨b, rfl, q⟩ | ⟨t, ty, hk, q⟩
    · refine ⟨_, rfl, _, _, .type "int", .type "int", true, rfl, .ty "int", .base (.int v), kit_ty (by decide +kernel), true, rfl, iteT ?_⟩
      exact ⟨_, rfl, _, _, .type "int", .type "bool", false, rfl, .ty "bool", .base (.int v), kit_ty (by decide +kernel), false, rfl, q⟩
    · refine ⟨_, rfl, _, _, .type "bool", .type "int", true, rfl, .ty "int", .base (.bl b), kit_ty (by decide +kernel), true, rfl, iteT ?_⟩
      exact ⟨_, rfl, _, _, .type "bool", .type "bool", true, rfl, .ty "bool", .base (.bl b), kit_ty (by decide +kernel), true, rfl, q⟩
    · exact ⟨_, rfl, _, _, t, .type "int", false, rfl, .ty "int", ty, hk, false, rfl, iteF q⟩
theorem scWhole : FnScope ["value", "least", "most"] ["value", "least", "most"] (defScope s_whole) := ⟨rfl, rfl, rfl, by decide +kernel, rfl, by decide +kernel, by decide +kernel⟩
theorem ok_whole {f fN : Addr} {fd fdN : FuncData} (F : Fun K "whole" "whole" s_whole f fd) (GN : FnOk P w K mg base CX0 1 fN fdN ["value"] (spInteger K)) (DN : Def K mg "integer" fN fdN ["value"]) : FnOk P w K mg base CX0 2 f fd ["value", "least", "most"] (spWhole K) := by
  refine F.ok scWhole (fun vs H Q E h => ?_) (fun cdv A outer s H vs Q E hr h => ?_)
  · obtain ⟨x, lo, hi, rfl, _⟩ := h
    rfl
  · obtain ⟨x, lo, hi, rfl, h⟩ := h
    refine ⟨_, pss_one (ps_ret (pe_and (pe_call GN hr (by rfl) DN.at_ DN.kp DN.bd .nil pass0 (pa_cons (pv 0) pa_nil)) (pe_one (pe_chain op_le op_le (pv 1) (pv 0) (pv 2))))), ?_⟩
    refine ⟨_, rfl, x, rfl, ?_⟩
    rcases h with ⟨v, rfl, q⟩ | ⟨b, rfl, q⟩ | ⟨t, ty, hk, q⟩
    · refine .inl ⟨v, rfl, true, rfl, iteT ?_⟩
      refine ⟨_, rfl, _, rfl, _, _, rfl, rfl, _, rfl, ite2 (fun h1 => ?_) fun h1 => ?_⟩
      · refine ⟨_, rfl, _, _, rfl, rfl, ?_⟩
        have h1' : lo ≤ v := of_decide_eq_true h1
        have e : decide (lo ≤ v ∧ v ≤ hi) = decide (v ≤ hi) := by
          by_cases z : v ≤ hi <;> simp [z, h1']
        rw [e] at q
        exact q
      · have h1' : ¬ lo ≤ v := of_decide_eq_false (by simpa using h1)
        have e : decide (lo ≤ v ∧ v ≤ hi) = false := decide_eq_false fun z => h1' z.1
        rw [e] at q
        exact q
    · exact .inr (.inl ⟨b, rfl, false, rfl, iteF q⟩)
    · exact .inr (.inr ⟨t, ty, hk, false, rfl, iteF q⟩)
end
end Sc
/-! Books and settings as they lie in the heap; _are_directions, _check. -/
namespace Sc
open PySem L2
/-- the directions of a mask below 8 -/
def ways (m : Nat) : List Str := (if m % 2 = 1 then ([("to" : Str)] : List Str) else []) ++ (if m / 2 % 2 = 1 then [("from" : Str)] else []) ++ (if m / 4 % 2 = 1 then [("both" : Str)] else [])
abbrev wv (m : Nat) : List V := (ways m).map V.str
abbrev B5 : Type := Nat × Nat × Nat × Nat × Nat
def ok5 (v : B5) : Prop := v.1 < 8 ∧ v.2.1 < 8 ∧ v.2.2.1 < 8 ∧ v.2.2.2.1 < 8 ∧ v.2.2.2.2 < 8
abbrev std5 : B5 := (7, 6, 7, 7, 6)
theorem ok_std : ok5 std5 := ⟨by decide, by decide, by decide, by decide, by decide⟩
def bkf (t1 t2 t3 t4 t5 : Addr) : List (Str × V) := putF "take_copied" (.ref t5) (putF "give_copied" (.ref t4) (putF "bind_copied" (.ref t3) (putF "dropped" (.ref t2) (putF "cleaned" (.ref t1) []))))
theorem bn1 : ¬ (("cleaned" : Str) = "dropped") := by decide +kernel
theorem bn2 : ¬ (("cleaned" : Str) = "bind_copied") := by decide +kernel
theorem bn3 : ¬ (("cleaned" : Str) = "give_copied") := by decide +kernel
theorem bn4 : ¬ (("cleaned" : Str) = "take_copied") := by decide +kernel
theorem bn5 : ¬ (("dropped" : Str) = "bind_copied") := by decide +kernel
theorem bn6 : ¬ (("dropped" : Str) = "give_copied") := by decide +kernel
theorem bn7 : ¬ (("dropped" : Str) = "take_copied") := by decide +kernel
theorem bn8 : ¬ (("bind_copied" : Str) = "give_copied") := by decide +kernel
theorem bn9 : ¬ (("bind_copied" : Str) = "take_copied") := by decide +kernel
theorem bn10 : ¬ (("give_copied" : Str) = "take_copied") := by decide +kernel
section
variable (t1 t2 t3 t4 t5 : Addr)
theorem bk1 : (bkf t1 t2 t3 t4 t5).lookup ("cleaned" : Str) = some (.ref t1) := by
  unfold bkf
  rw [lookup_putF, if_neg bn4, lookup_putF, if_neg bn3, lookup_putF, if_neg bn2, lookup_putF, if_neg bn1, lookup_putF, if_pos rfl]
theorem bk2 : (bkf t1 t2 t3 t4 t5).lookup ("dropped" : Str) = some (.ref t2) := by
  unfold bkf
  rw [lookup_putF, if_neg bn7, lookup_putF, if_neg bn6, lookup_putF, if_neg bn5, lookup_putF, if_pos rfl]
theorem bk3 : (bkf t1 t2 t3 t4 t5).lookup ("bind_copied" : Str) = some (.ref t3) := by
  unfold bkf
  rw [lookup_putF, if_neg bn9, lookup_putF, if_neg bn8, lookup_putF, if_pos rfl]
theorem bk4 : (bkf t1 t2 t3 t4 t5).lookup ("give_copied" : Str) = some (.ref t4) := by
  unfold bkf
  rw [lookup_putF, if_neg bn10, lookup_putF, if_pos rfl]
theorem bk5 : (bkf t1 t2 t3 t4 t5).lookup ("take_copied" : Str) = some (.ref t5) := by
  unfold bkf
  rw [lookup_putF, if_pos rfl]
end
def BookAt (K : PySem.W.Frag) (CB : Addr) (H : Hp) (b : Addr) (v : B5) : Prop := ∃ dx t1 t2 t3 t4 t5, H b = some (.ins CB dx (bkf t1 t2 t3 t4 t5)) ∧ ok5 v ∧ SqT K H t1 (wv v.1) ∧ SqT K H t2 (wv v.2.1) ∧ SqT K H t3 (wv v.2.2.1) ∧ SqT K H t4 (wv v.2.2.2.1) ∧ SqT K H t5 (wv v.2.2.2.2)
theorem sqT_same {K : PySem.W.Frag} {H H' : Hp} {a : Addr} {xs : List V} (h : SqT K H a xs) (e : Same H H') : SqT K H' a xs := by
  rcases h with (h | ⟨o, h⟩) | h
  · exact .inl (.inl (e _ _ h))
  · exact .inl (.inr ⟨o, e _ _ h⟩)
  · exact .inr h
theorem BookAt.same {K : PySem.W.Frag} {CB : Addr} {H H' : Hp} {b : Addr} {v : B5} (h : BookAt K CB H b v) (e : Same H H') : BookAt K CB H' b v := by
  obtain ⟨dx, t1, t2, t3, t4, t5, h0, hv, h1, h2, h3, h4, h5⟩ := h
  exact ⟨dx, t1, t2, t3, t4, t5, e _ _ h0, hv, sqT_same h1 e, sqT_same h2 e, sqT_same h3 e, sqT_same h4 e, sqT_same h5 e⟩
theorem tyT {K : PySem.W.Frag} {H : Hp} {a : Addr} {xs : List V} (h : SqT K H a xs) : TyX K H (.ref a) (.type "tuple") := by
  rcases h with (h | ⟨o, h⟩) | ⟨o, its, n, h1, h2, _⟩
  · exact .base (.tup h)
  · exact .fTuple h
  · exact .kTuple h1 h2
/-- the module's tuples -/
structure DirAt (K : PySem.W.Frag) (mg : Str → Option Value) (dT wT cT pT : Addr) : Prop where
  dir : mg "DIRECTIONS" = some (.ref dT)
  dirs : ∀ H, SqT K H dT (wv 7)
  wri : mg "WRITING" = some (.ref wT)
  wris : ∀ H, SqT K H wT (wv 6)
  cop : mg "_COPIES" = some (.ref cT)
  cops : ∀ H, SqT K H cT [.str "none", .str "ends", .str "all"]
  pol : mg "POLICIES" = some (.ref pT)
  pols : ∀ H, SqT K H pT [.str "first", .str "best", .str "worst", .str "next", .str "halves"]
theorem ways_filter {m : Nat} (h : m < 8) : (wv 7).filter (fun x => inV x (wv m)) = wv m := by
  have : m = 0 ∨ m = 1 ∨ m = 2 ∨ m = 3 ∨ m = 4 ∨ m = 5 ∨ m = 6 ∨ m = 7 := by omega
  rcases this with rfl | rfl | rfl | rfl | rfl | rfl | rfl | rfl <;> decide +kernel
theorem ways_flat (m : Nat) : (wv m).all flatV = true := by
  rw [List.all_map]
  exact List.all_eq_true.mpr fun x _ => rfl
theorem ways_len (m : Nat) : (ways m).length ≤ 3 := by
  unfold ways
  split <;> split <;> split <;> simp
/-- tuples of texts as data -/
def dW (m : Nat) : PyData := .tuple ((ways m).map .str)
theorem dpall_str {K : PySem.W.Frag} {H : Hp} : ∀ xs : List Str, DpAll K H (xs.map V.str) (xs.map PyData.str)
  | [] => .nil
  | x :: r => .cons (.str x) (dpall_str r)
theorem dp_w {K : PySem.W.Frag} {H : Hp} {a : Addr} {m : Nat} (h : SqT K H a (wv m)) : Dp K H (.ref a) (dW m) := .tup h (dpall_str _)
theorem lay_w (m : Nat) : PyData.canLay0 (dW m) = true := by
  unfold dW ways
  split <;> split <;> split <;> decide +kernel
theorem depth_w (m : Nat) : PyData.depth (dW m) = 1 := by
  unfold dW ways
  split <;> split <;> split <;> decide +kernel
theorem shaped_w (m : Nat) : SeqAt.shaped (dW m) = true := by
  unfold SeqAt.shaped
  rw [lay_w, depth_w]
  rfl
theorem eqv_w {m n : Nat} (hm : m < 8) (hn : n < 8) : PyData.eqv (dW m) (dW n) = decide (m = n) := by
  have a : m = 0 ∨ m = 1 ∨ m = 2 ∨ m = 3 ∨ m = 4 ∨ m = 5 ∨ m = 6 ∨ m = 7 := by omega
  have b : n = 0 ∨ n = 1 ∨ n = 2 ∨ n = 3 ∨ n = 4 ∨ n = 5 ∨ n = 6 ∨ n = 7 := by omega
  rcases a with rfl | rfl | rfl | rfl | rfl | rfl | rfl | rfl <;> rcases b with rfl | rfl | rfl | rfl | rfl | rfl | rfl | rfl <;> decide +kernel
/-- what a comprehension with a test has made so far, of items as they are -/
def PFil (H1 : Hp) (D : Addr) (xs : List V) (p : V → Bool) (i : Nat) (H' : Hp) : Prop := Same H1 H' ∧ H' D = some (.lst ((xs.take i).filter p))
theorem PFil.zero {H1 : Hp} {D : Addr} {xs : List V} {p : V → Bool} (nD : H1 D = none) : PFil H1 D xs p 0 (upd H1 D (.lst [])) := ⟨put_same nD, upd_same⟩
theorem PFil.skip {H1 H' : Hp} {D : Addr} {xs : List V} {p : V → Bool} {i : Nat} {x : V} (h : PFil H1 D xs p i H') (hx : xs[i]? = some x) (hp : p x = false) : PFil H1 D xs p (i + 1) H' := by
  obtain ⟨h1, h2⟩ := h
  refine ⟨h1, ?_⟩
  rw [h2, List.take_add_one, hx, List.filter_append]
  simp [hp]
theorem PFil.next {H1 H' H4 : Hp} {D : Addr} {xs : List V} {p : V → Bool} {i : Nat} {x : V} (h : PFil H1 D xs p i H') (nD : H1 D = none) (hx : xs[i]? = some x) (hp : p x = true) (hl : xs.length < 1000) (s : Same H' H4) : ∃ acc, H4 D = some (.lst acc) ∧ acc.length < sizeLine ∧ PFil H1 D xs p (i + 1) (upd H4 D (.lst (acc ++ [x]))) := by
  obtain ⟨h1, h2⟩ := h
  refine ⟨_, s _ _ h2, ?_, fun c o e => ?_, ?_⟩
  · refine Nat.lt_of_lt_of_le (Nat.lt_of_le_of_lt (List.length_filter_le _ _) ?_) (show 1000 ≤ sizeLine by decide)
    rw [List.length_take]
    omega
  · rw [upd_ne (ne_of_none e nD)]
    exact s _ _ (h1 _ _ e)
  · rw [upd_same, List.take_add_one, hx, List.filter_append]
    simp [hp]
def spDirs (K : PySem.W.Frag) : Sp := fun vs H Q _ => ∃ (t : Addr) (m : Nat), vs = [.ref t] ∧ m < 8 ∧ SqT K H t (wv m) ∧ ∀ H', Same H H' → Q (.bl true) H'
def spCheck : Sp := fun vs H Q _ => ∃ (l : Addr) (ps : List Addr) (xs : List Str), vs = [.ref l] ∧ H l = some (.lst (ps.map V.ref)) ∧ Paired (fun (t : Addr) (x : Str) => H t = some (.tup [.str x, .bl true])) ps xs ∧ Q .non H
section
variable {P : Program} {w : World} {K : PySem.W.Frag} {mg : Str → Option Value} {base : Heap} {dT wT cT pT : Addr}
theorem scDirs : FnScope ["value", "word"] ["value"] (defScope s__are_directions) := ⟨rfl, rfl, rfl, by decide +kernel, rfl, by decide +kernel, by decide +kernel⟩
theorem ok_dirs {f : Addr} {fd : FuncData} (F : Fun K "_are_directions" "_are_directions" s__are_directions f fd) (isi : mg "isinstance" = none) (tpl : mg "tuple" = none) (D : DirAt K mg dT wT cT pT) : FnOk P w K mg base CX0 1 f fd ["value"] (spDirs K) := by
  refine F.ok scDirs (fun vs H Q E h => ?_) (fun cdv A outer s H vs Q E hr h => ?_)
  · obtain ⟨t, m, rfl, _⟩ := h
    rfl
  · obtain ⟨t, m, rfl, hm, ht, k⟩ := h
    refine ⟨_, pss_one (ps_ret (pe_and (pe_callB call_isi (by rfl) isi (by decide +kernel) (pa_cons (pv 0) (pa_cons (pe_bltn (v := .ty "tuple") (by rfl) tpl (by decide +kernel) rfl) pa_nil)))
      (pe_one (pe_cmpR (op_eqD hr.units) (pv 0) (pe_callTy call_tuple_of (by rfl) tpl (by decide +kernel) (pa_cons (pe_lc (own := [("word", 1)]) (g := gName 1) rfl scDirs.nd (pi_tup (pe_glob (v := .ref dT) rfl D.dir rfl)) (blkOk_by (N := ["value", "word"]) (sc := defScope s__are_directions) (by decide +kernel))
        (fun _ _ _ _ _ => pg_name (i := 1) scDirs.nd rfl (Or.inl rfl)) (fun _ _ _ _ _ => pts_one (pt_cmpR (r := rIn K false) op_in_seq (pv 1) (pv 0) (by rfl))) (fun _ _ _ _ _ => pv 1)) pa_nil)) (nomark _))))), ?_⟩
    refine ⟨_, rfl, _, _, .type "tuple", .type "tuple", true, rfl, .ty "tuple", tyT ht, kit_ty (by decide +kernel), true, rfl, iteT ?_⟩
    refine ⟨_, rfl, dT, rfl, ⟨_, D.dirs H⟩, fun l nl => lc_tup (K := K) (a := dT) (xs := wv 7) (PFil H l (wv 7) fun x => inV x (wv m)) (.zero nl) (fun i H' _ _ => D.dirs H') (fun i x H' hx p => ?_) fun H1 p => ?_⟩
    · have fx : flatV x = true := by
        obtain ⟨hi, rfl⟩ := List.getElem?_eq_some_iff.mp hx
        exact List.all_eq_true.mp (ways_flat 7) _ (List.getElem_mem hi)
      refine ⟨rfl, _, rfl, _, rfl, t, wv m, rfl, .inr (sqT_same ht p.1), fx, ways_flat m, inV x (wv m), rfl, ?_⟩
      cases hc : inV x (wv m) with
      | true => exact iteT ⟨_, rfl, p.next nl hx hc (by decide) (Same.refl _)⟩
      | false => exact iteF (p.skip hx hc)
    · obtain ⟨s1, e1⟩ := p
      rw [List.take_length, ways_filter hm] at e1
      refine ⟨l, _, rfl, .inl ⟨SqL.of e1, fun u nu => ?_⟩⟩
      have s2 := put_same (o := .tup (wv m)) nu
      refine ⟨dW m, dW m, dp_w (sqT_same ht (s1.trans s2)), dp_w (.inl (.inl upd_same)), shaped_w m, shaped_w m, ?_⟩
      rw [eqv_self (shaped_w m)]
      exact k _ (s1.trans s2)
end
end Sc
/-! _check; a book made. -/
namespace Sc
open PySem L2
/-- what the walk asks of the class Book -/
structure TBk (K : PySem.W.Frag) (mg : Str → Option Value) (CB : Addr) : Prop where
  cl : Cls K CB
  n1 : NoAttr K CB "cleaned"
  n2 : NoAttr K CB "dropped"
  n3 : NoAttr K CB "bind_copied"
  n4 : NoAttr K CB "give_copied"
  n5 : NoAttr K CB "take_copied"
  mgB : mg "Book" = some (.ref CB)
def spBInit (K : PySem.W.Frag) (CB : Addr) : Sp := fun vs H Q _ => ∃ (p dx t1 t2 t3 t4 t5 : Addr) (v : B5), vs = [.ref p, .ref t1, .ref t2, .ref t3, .ref t4, .ref t5] ∧ H p = some (.ins CB dx []) ∧ ok5 v ∧ SqT K H t1 (wv v.1) ∧ SqT K H t2 (wv v.2.1) ∧ SqT K H t3 (wv v.2.2.1) ∧ SqT K H t4 (wv v.2.2.2.1) ∧ SqT K H t5 (wv v.2.2.2.2) ∧
  ∀ H', (∀ q o, q ≠ p → H q = some o → H' q = some o) → H' p = some (.ins CB dx (bkf t1 t2 t3 t4 t5)) → Q .non H'
theorem sqT_upd {K : PySem.W.Frag} {H H' : Hp} {a p : Addr} {xs : List V} (h : SqT K H a xs) (hp : ∀ ys, H p ≠ some (.tup ys)) (hf : ∀ o ys, H p ≠ some (.frz o ys)) (e : ∀ q o, q ≠ p → H q = some o → H' q = some o) : SqT K H' a xs := by
  rcases h with (h | ⟨o, h⟩) | h
  · exact .inl (.inl (e _ _ (fun z => hp xs (z ▸ h)) h))
  · exact .inl (.inr ⟨o, e _ _ (fun z => hf _ _ (z ▸ h)) h⟩)
  · exact .inr h
section
variable {P : Program} {w : World} {K : PySem.W.Frag} {mg : Str → Option Value} {base : Heap} {CB : Addr}
theorem scCheck : FnScope ["fields", "field", "right"] ["fields"] (defScope s__check) := ⟨rfl, rfl, rfl, by decide +kernel, rfl, by decide +kernel, by decide +kernel⟩
theorem ok_check {f : Addr} {fd : FuncData} (F : Fun K "_check" "_check" s__check f fd) : FnOk P w K mg base CX0 1 f fd ["fields"] spCheck := by
  refine F.ok scCheck (fun vs H Q E h => ?_) (fun cdv A outer s H vs Q E hr h => ?_)
  · obtain ⟨l, ps, xs, rfl, _⟩ := h
    rfl
  · obtain ⟨l, ps, xs, rfl, hl, hp, k⟩ := h
    refine ⟨_, pss_one (ps_for PassesOwn.never rfl (pi_list (pv 0)) (pg_tup rfl (pgs_cons (pg_name (i := 1) scCheck.nd rfl (Or.inl rfl)) (pgs_cons (pg_name (i := 2) scCheck.nd rfl (Or.inl rfl)) pgs_nil)))
      (pss_one (ps_if (pt_not (pt_val (pv 2))) (pss_one ps_never) pss_nil))), ?_⟩
    refine ⟨_, rfl, l, rfl, ⟨_, SqL.of hl⟩, for_list (K := K) (a := l) (xs := ps.map V.ref) (fun i σ H' => H' = H ∧ ∃ v1 v2 : Option V, σ = [some (.ref l), v1, v2]) ⟨rfl, none, none, rfl⟩ (fun i σ H' hi z => by rw [z.1]; exact SqL.of hl) (fun i x σ H' hx z => ?_) fun σ H' z => ?_⟩
    · obtain ⟨rfl, v1, v2, rfl⟩ := z
      rw [List.getElem?_map] at hx
      obtain ⟨t, ht, rfl⟩ := Option.map_eq_some_iff.mp hx
      have il : i < xs.length := by
        have := paired_len hp
        have := (List.getElem?_eq_some_iff.mp ht).1
        omega
      have et := paired_ith hp ht (List.getElem?_eq_getElem il)
      refine ⟨t, _, rfl, .inl (.inl et), rfl, _, _, rfl, _, _, rfl, rfl, ?_⟩
      exact ⟨_, rfl, true, rfl, iteF ⟨rfl, _, _, rfl⟩⟩
    · obtain ⟨rfl, _⟩ := z
      exact k
theorem scBInit : FnScope ["self", "cleaned", "dropped", "bind_copied", "give_copied", "take_copied"] ["self", "cleaned", "dropped", "bind_copied", "give_copied", "take_copied"] (defScope s_Book___init__) := ⟨rfl, rfl, rfl, by decide +kernel, rfl, by decide +kernel, by decide +kernel⟩
theorem ok_binit {f fD fC : Addr} {fd fdD fdC : FuncData} {kws : List (Str × V)} (F : FunD K "__init__" "Book.__init__" (defArgs s_Book___init__) (defBody s_Book___init__) (defScope s_Book___init__) [] kws f fd) (T : TBk K mg CB)
    (GD : FnOk P w K mg base CX0 1 fD fdD ["value"] (spDirs K)) (DD : Def K mg "_are_directions" fD fdD ["value"]) (GC : FnOk P w K mg base CX0 1 fC fdC ["fields"] spCheck) (DC : Def K mg "_check" fC fdC ["fields"]) : FnOk P w K mg base CX0 2 f fd ["self", "cleaned", "dropped", "bind_copied", "give_copied", "take_copied"] (spBInit K CB) := by
  refine F.ok scBInit (fun vs H Q E h => ?_) (fun cdv A outer s H vs Q E hr h => ?_)
  · obtain ⟨p, dx, t1, t2, t3, t4, t5, v, rfl, _⟩ := h
    rfl
  · obtain ⟨p, dx, t1, t2, t3, t4, t5, v, rfl, hp, hv, h1, h2, h3, h4, h5, k⟩ := h
    refine ⟨_, pss_cons (ps_expr (pe_call GC (hr.mono (by decide)) (by rfl) DC.at_ DC.kp DC.bd .nil pass0 (pa_cons (pe_lst (pa_cons (pe_tup (pa_cons pe_str (pa_cons (pe_call GD (hr.mono (by decide)) (by rfl) DD.at_ DD.kp DD.bd .nil pass0 (pa_cons (pv 1) pa_nil)) pa_nil))) (pa_cons (pe_tup (pa_cons pe_str (pa_cons (pe_call GD (hr.mono (by decide)) (by rfl) DD.at_ DD.kp DD.bd .nil pass0 (pa_cons (pv 2) pa_nil)) pa_nil))) (pa_cons (pe_tup (pa_cons pe_str (pa_cons (pe_call GD (hr.mono (by decide)) (by rfl) DD.at_ DD.kp DD.bd .nil pass0 (pa_cons (pv 3) pa_nil)) pa_nil))) (pa_cons (pe_tup (pa_cons pe_str (pa_cons (pe_call GD (hr.mono (by decide)) (by rfl) DD.at_ DD.kp DD.bd .nil pass0 (pa_cons (pv 4) pa_nil)) pa_nil))) (pa_cons (pe_tup (pa_cons pe_str (pa_cons (pe_call GD (hr.mono (by decide)) (by rfl) DD.at_ DD.kp DD.bd .nil pass0 (pa_cons (pv 5) pa_nil)) pa_nil))) pa_nil)))))) pa_nil)))
      (pss_cons (ps_fld (pv 0) (pv 1) rfl) (pss_cons (ps_fld (pv 0) (pv 2) rfl) (pss_cons (ps_fld (pv 0) (pv 3) rfl) (pss_cons (ps_fld (pv 0) (pv 4) rfl) (pss_one (ps_fld (pv 0) (pv 5) rfl)))))), ?_⟩
    refine ⟨_, rfl, t1, v.1, rfl, hv.1, h1, fun A1 sa1 => ⟨(by show 2 ≤ sizeLine; decide), fun u1 nu1 => ?_⟩⟩
    have su1 := put_same (o := .tup [.str "cleaned", .bl true]) nu1
    have k1 := sa1.trans su1
    refine ⟨_, rfl, t2, v.2.1, rfl, hv.2.1, (sqT_same h2 k1), fun A2 sa2 => ⟨(by show 2 ≤ sizeLine; decide), fun u2 nu2 => ?_⟩⟩
    have su2 := put_same (o := .tup [.str "dropped", .bl true]) nu2
    have g2 := sa2.trans su2
    have k2 := k1.trans g2
    refine ⟨_, rfl, t3, v.2.2.1, rfl, hv.2.2.1, (sqT_same h3 k2), fun A3 sa3 => ⟨(by show 2 ≤ sizeLine; decide), fun u3 nu3 => ?_⟩⟩
    have su3 := put_same (o := .tup [.str "bind_copied", .bl true]) nu3
    have g3 := sa3.trans su3
    have k3 := k2.trans g3
    refine ⟨_, rfl, t4, v.2.2.2.1, rfl, hv.2.2.2.1, (sqT_same h4 k3), fun A4 sa4 => ⟨(by show 2 ≤ sizeLine; decide), fun u4 nu4 => ?_⟩⟩
    have su4 := put_same (o := .tup [.str "give_copied", .bl true]) nu4
    have g4 := sa4.trans su4
    have k4 := k3.trans g4
    refine ⟨_, rfl, t5, v.2.2.2.2, rfl, hv.2.2.2.2, (sqT_same h5 k4), fun A5 sa5 => ⟨(by show 2 ≤ sizeLine; decide), fun u5 nu5 => ?_⟩⟩
    have su5 := put_same (o := .tup [.str "take_copied", .bl true]) nu5
    have g5 := sa5.trans su5
    have k5 := k4.trans g5
    refine ⟨(by show 5 ≤ sizeLine; decide), fun l nl => ?_⟩
    have sl := put_same (o := .lst [.ref u1, .ref u2, .ref u3, .ref u4, .ref u5]) nl
    have kl := k5.trans sl
    refine ⟨l, [u1, u2, u3, u4, u5], ["cleaned", "dropped", "bind_copied", "give_copied", "take_copied"], rfl, upd_same, .cons (sl _ _ (g5 _ _ (g4 _ _ (g3 _ _ (g2 _ _ upd_same))))) (.cons (sl _ _ (g5 _ _ (g4 _ _ (g3 _ _ upd_same)))) (.cons (sl _ _ (g5 _ _ (g4 _ _ upd_same))) (.cons (sl _ _ (g5 _ _ upd_same)) (.cons (sl _ _ upd_same) .nil)))), ?_⟩
    have ep := kl _ _ hp
    generalize upd _ l _ = HL at ep kl
    refine ⟨_, rfl, _, rfl, p, CB, dx, [], rfl, ep, T.cl, T.n1, (by show 0 < 1000; decide), ?_⟩
    refine ⟨_, rfl, _, rfl, p, CB, dx, _, rfl, upd_same, T.cl, T.n2, (by show 1 < 1000; decide), ?_⟩
    refine ⟨_, rfl, _, rfl, p, CB, dx, _, rfl, upd_same, T.cl, T.n3, (by show 2 < 1000; decide), ?_⟩
    refine ⟨_, rfl, _, rfl, p, CB, dx, _, rfl, upd_same, T.cl, T.n4, (by show 3 < 1000; decide), ?_⟩
    refine ⟨_, rfl, _, rfl, p, CB, dx, _, rfl, upd_same, T.cl, T.n5, (by show 4 < 1000; decide), ?_⟩
    refine k _ (fun q o hq e => ?_) upd_same
    rw [upd_ne hq, upd_ne hq, upd_ne hq, upd_ne hq, upd_ne hq]
    exact kl _ _ e
end
end Sc
/-! How Book's arguments are bound; Book(), Book(k = v, ..), _same_book. -/
namespace Sc
open PySem L2
abbrev NBk : List Str := ["self", "cleaned", "dropped", "bind_copied", "give_copied", "take_copied"]
def kwB (dT wT : Addr) : List (Str × V) := [("cleaned", .ref dT), ("dropped", .ref wT), ("bind_copied", .ref dT), ("give_copied", .ref dT), ("take_copied", .ref wT)]
abbrev FB (K : PySem.W.Frag) (dT wT f : Addr) (fd : FuncData) : Prop := FunD K "__init__" "Book.__init__" (defArgs s_Book___init__) (defBody s_Book___init__) (defScope s_Book___init__) [] (kwB dT wT) f fd
section
variable {K : PySem.W.Frag} {dT wT f : Addr} {fd : FuncData}
theorem kb_none (F : FB K dT wT f fd) : ∃ g, KBn K fd NBk 1 [] g (fun vs zs => vs ++ (kwB dT wT).map (·.2)) := by
  obtain ⟨mv, h⟩ := F.kbinds0 (ps := NBk) 1 [] (kwB dT wT) (fun vs mz zs => vs ++ mz) (fun z => by cases z) (fun q hq => hq) (fun a b c => a.append b) (fun D doc pm an cdv ct us mv ws hu hm hw => match us, mv, ws, hu, hm, hw with
    | [_], [_, _, _, _, _], [], _, _, _ => ⟨_, _, _, _, _, _, rfl, rfl, _, _, _, _, _, _, rfl, rfl, _, _, _, _, _, _, rfl, rfl, _, _, _, _, _, _, rfl, rfl, _, _, _, _, _, _, rfl, rfl, rfl⟩)
  exact ⟨_, h⟩
theorem kb_all (F : FB K dT wT f fd) : ∃ g, KBn K fd NBk 1 ["cleaned", "dropped", "bind_copied", "give_copied", "take_copied"] g (fun vs zs => vs ++ zs) := by
  obtain ⟨mv, h⟩ := F.kbinds0 (ps := NBk) 1 ["cleaned", "dropped", "bind_copied", "give_copied", "take_copied"] [] (fun vs mz zs => vs ++ zs) (fun z => by cases z) (fun q hq => by cases hq) (fun a b c => a.append c) (fun D doc pm an cdv ct us mv ws hu hm hw => match us, mv, ws, hu, hm, hw with
    | [_], [], [_, _, _, _, _], _, _, _ => rfl)
  exact ⟨_, h⟩
theorem kb_rev (F : FB K dT wT f fd) : ∃ g, KBn K fd NBk 1 ["take_copied", "give_copied", "bind_copied", "dropped", "cleaned"] g (fun vs zs => vs ++ zs.reverse) := by
  obtain ⟨mv, h⟩ := F.kbinds0 (ps := NBk) 1 ["take_copied", "give_copied", "bind_copied", "dropped", "cleaned"] [] (fun vs mz zs => vs ++ zs.reverse) (fun z => by cases z) (fun q hq => by cases hq) (fun a b c => a.append c.reverse) (fun D doc pm an cdv ct us mv ws hu hm hw => match us, mv, ws, hu, hm, hw with
    | [_], [], [_, _, _, _, _], _, _, _ => rfl)
  exact ⟨_, h⟩
end
/-- a new book -/
theorem book_new {K : PySem.W.Frag} {CB : Addr} {H H3 : Hp} {x dx t1 t2 t3 t4 t5 : Addr} {v : B5} (nx : H x = none) (nd : H dx = none) (ne : dx ≠ x) (hv : ok5 v) (h1 : SqT K H t1 (wv v.1)) (h2 : SqT K H t2 (wv v.2.1)) (h3 : SqT K H t3 (wv v.2.2.1)) (h4 : SqT K H t4 (wv v.2.2.2.1)) (h5 : SqT K H t5 (wv v.2.2.2.2)) :
    Same H (upd (upd H dx (.own x)) x (.ins CB dx [])) ∧ ((∀ q o, q ≠ x → (upd (upd H dx (.own x)) x (.ins CB dx [])) q = some o → H3 q = some o) → H3 x = some (.ins CB dx (bkf t1 t2 t3 t4 t5)) → Same H H3 ∧ BookAt K CB H3 x v) := by
  have s0 : Same H (upd (upd H dx (.own x)) x (.ins CB dx [])) := fun c o e => by
    rw [upd_ne (ne_of_none e nx), upd_ne (ne_of_none e nd)]
    exact e
  refine ⟨s0, fun hk e3 => ?_⟩
  have s3 : Same H H3 := fun c o e => hk _ _ (ne_of_none e nx) (s0 _ _ e)
  exact ⟨s3, dx, t1, t2, t3, t4, t5, e3, hv, sqT_same h1 s3, sqT_same h2 s3, sqT_same h3 s3, sqT_same h4 s3, sqT_same h5 s3⟩
def spSame (K : PySem.W.Frag) (CB : Addr) : Sp := fun vs H Q _ => ∃ (b : Addr) (v : B5), vs = [.ref b] ∧ BookAt K CB H b v ∧ ∀ H' b', Same H H' → H b' = none → BookAt K CB H' b' v → Q (.ref b') H'
section
variable {P : Program} {w : World} {K : PySem.W.Frag} {mg : Str → Option Value} {base : Heap} {CB dT wT : Addr}
theorem scSame : FnScope ["book"] ["book"] (defScope s__same_book) := ⟨rfl, rfl, rfl, by decide +kernel, rfl, by decide +kernel, by decide +kernel⟩
theorem ok_same {f fI : Addr} {fd fdI : FuncData} (F : Fun K "_same_book" "_same_book" s__same_book f fd) (T : TBk K mg CB) (M : Mk K CB fI) (GI : FnOk P w K mg base CX0 2 fI fdI NBk (spBInit K CB)) (FI : FB K dT wT fI fdI) : FnOk P w K mg base CX0 4 f fd ["book"] (spSame K CB) := by
  obtain ⟨g, hb⟩ := kb_all FI
  refine F.ok scSame (fun vs H Q E h => ?_) (fun cdv A outer s H vs Q E hr h => ?_)
  · obtain ⟨b, v, rfl, _⟩ := h
    rfl
  · obtain ⟨b, v, rfl, hB, k⟩ := h
    obtain ⟨dx0, t1, t2, t3, t4, t5, eb, hv, h1, h2, h3, h4, h5⟩ := hB
    refine ⟨_, pss_one (ps_ret (pe_makeK0 M GI hr (by rfl) T.mgB hb pass0 (pk_cons (pe_fld (pv 0) rfl) (pk_cons (pe_fld (pv 0) rfl) (pk_cons (pe_fld (pv 0) rfl) (pk_cons (pe_fld (pv 0) rfl) (pk_cons (pe_fld (pv 0) rfl) pk_nil))))))), ?_⟩
    refine ⟨_, rfl, b, CB, dx0, _, _, rfl, eb, T.cl, T.n1, bk1 .., _, rfl, b, CB, dx0, _, _, rfl, eb, T.cl, T.n2, bk2 .., _, rfl, b, CB, dx0, _, _, rfl, eb, T.cl, T.n3, bk3 .., _, rfl, b, CB, dx0, _, _, rfl, eb, T.cl, T.n4, bk4 .., _, rfl, b, CB, dx0, _, _, rfl, eb, T.cl, T.n5, bk5 .., rfl, rfl, fun x dx nx nd ne => ?_⟩
    obtain ⟨s0, fin⟩ := book_new (CB := CB) (H3 := H) nx nd ne hv h1 h2 h3 h4 h5
    refine ⟨x, dx, t1, t2, t3, t4, t5, v, rfl, upd_same, hv, sqT_same h1 s0, sqT_same h2 s0, sqT_same h3 s0, sqT_same h4 s0, sqT_same h5 s0, fun H3 hk e3 => ⟨rfl, ?_⟩⟩
    obtain ⟨s3, b3⟩ := (book_new (CB := CB) (H3 := H3) nx nd ne hv h1 h2 h3 h4 h5).2 hk e3
    exact k _ _ s3 nx b3
end
end Sc
/-! A setting made. -/
namespace Sc
open PySem L2
structure S8 where
  copies : Str
  cached : Bool
  batch : Int
  early : Bool
  drain : Bool
  policy : Str
  groups : Int
  tables : Int
deriving DecidableEq
abbrev cpV : List V := [.str "none", .str "ends", .str "all"]
abbrev plV : List V := [.str "first", .str "best", .str "worst", .str "next", .str "halves"]
structure S8.Ok (s : S8) : Prop where
  c : inV (.str s.copies) cpV = true
  b0 : 0 ≤ s.batch
  b1 : s.batch ≤ 8
  p : inV (.str s.policy) plV = true
  g0 : 1 ≤ s.groups
  g1 : s.groups ≤ 32
  t0 : 1 ≤ s.tables
  t1 : s.tables ≤ 32
abbrev std8 : S8 := ⟨"none", false, 0, false, true, "first", 16, 16⟩
theorem std8_ok : std8.Ok := ⟨by decide +kernel, by decide, by decide, by decide +kernel, by decide, by decide, by decide, by decide⟩
theorem ite_same {c : Bool} {A B : Prop} (ha : A) (hb : c = false → A → B) : if c = true then A else B := by
  cases c with
  | true => exact iteT ha
  | false => exact iteF (hb rfl ha)
abbrev NSt : List Str := ["self", "copies", "cached", "batch", "early", "drain", "policy", "groups", "tables", "book"]
abbrev vals8 (s : S8) : List V := [.str s.copies, .bl s.cached, .int s.batch, .bl s.early, .bl s.drain, .str s.policy, .int s.groups, .int s.tables]
def stf (s : S8) (b : Addr) : List (Str × V) := putF "book" (.ref b) (putF "tables" (.int s.tables) (putF "groups" (.int s.groups) (putF "policy" (.str s.policy) (putF "drain" (.bl s.drain) (putF "early" (.bl s.early) (putF "batch" (.int s.batch) (putF "cached" (.bl s.cached) (putF "copies" (.str s.copies) []))))))))
theorem sn1 : ¬ (("copies" : Str) = "cached") := by decide +kernel
theorem sn2 : ¬ (("copies" : Str) = "batch") := by decide +kernel
theorem sn3 : ¬ (("copies" : Str) = "early") := by decide +kernel
theorem sn4 : ¬ (("copies" : Str) = "drain") := by decide +kernel
theorem sn5 : ¬ (("copies" : Str) = "policy") := by decide +kernel
theorem sn6 : ¬ (("copies" : Str) = "groups") := by decide +kernel
theorem sn7 : ¬ (("copies" : Str) = "tables") := by decide +kernel
theorem sn8 : ¬ (("copies" : Str) = "book") := by decide +kernel
theorem sn9 : ¬ (("cached" : Str) = "batch") := by decide +kernel
theorem sn10 : ¬ (("cached" : Str) = "early") := by decide +kernel
theorem sn11 : ¬ (("cached" : Str) = "drain") := by decide +kernel
theorem sn12 : ¬ (("cached" : Str) = "policy") := by decide +kernel
theorem sn13 : ¬ (("cached" : Str) = "groups") := by decide +kernel
theorem sn14 : ¬ (("cached" : Str) = "tables") := by decide +kernel
theorem sn15 : ¬ (("cached" : Str) = "book") := by decide +kernel
theorem sn16 : ¬ (("batch" : Str) = "early") := by decide +kernel
theorem sn17 : ¬ (("batch" : Str) = "drain") := by decide +kernel
theorem sn18 : ¬ (("batch" : Str) = "policy") := by decide +kernel
theorem sn19 : ¬ (("batch" : Str) = "groups") := by decide +kernel
theorem sn20 : ¬ (("batch" : Str) = "tables") := by decide +kernel
theorem sn21 : ¬ (("batch" : Str) = "book") := by decide +kernel
theorem sn22 : ¬ (("early" : Str) = "drain") := by decide +kernel
theorem sn23 : ¬ (("early" : Str) = "policy") := by decide +kernel
theorem sn24 : ¬ (("early" : Str) = "groups") := by decide +kernel
theorem sn25 : ¬ (("early" : Str) = "tables") := by decide +kernel
theorem sn26 : ¬ (("early" : Str) = "book") := by decide +kernel
theorem sn27 : ¬ (("drain" : Str) = "policy") := by decide +kernel
theorem sn28 : ¬ (("drain" : Str) = "groups") := by decide +kernel
theorem sn29 : ¬ (("drain" : Str) = "tables") := by decide +kernel
theorem sn30 : ¬ (("drain" : Str) = "book") := by decide +kernel
theorem sn31 : ¬ (("policy" : Str) = "groups") := by decide +kernel
theorem sn32 : ¬ (("policy" : Str) = "tables") := by decide +kernel
theorem sn33 : ¬ (("policy" : Str) = "book") := by decide +kernel
theorem sn34 : ¬ (("groups" : Str) = "tables") := by decide +kernel
theorem sn35 : ¬ (("groups" : Str) = "book") := by decide +kernel
theorem sn36 : ¬ (("tables" : Str) = "book") := by decide +kernel
section
variable (s : S8) (b : Addr)
theorem st1 : (stf s b).lookup ("copies" : Str) = some (.str s.copies) := by
  unfold stf
  rw [lookup_putF, if_neg sn8, lookup_putF, if_neg sn7, lookup_putF, if_neg sn6, lookup_putF, if_neg sn5, lookup_putF, if_neg sn4, lookup_putF, if_neg sn3, lookup_putF, if_neg sn2, lookup_putF, if_neg sn1, lookup_putF, if_pos rfl]
theorem st2 : (stf s b).lookup ("cached" : Str) = some (.bl s.cached) := by
  unfold stf
  rw [lookup_putF, if_neg sn15, lookup_putF, if_neg sn14, lookup_putF, if_neg sn13, lookup_putF, if_neg sn12, lookup_putF, if_neg sn11, lookup_putF, if_neg sn10, lookup_putF, if_neg sn9, lookup_putF, if_pos rfl]
theorem st3 : (stf s b).lookup ("batch" : Str) = some (.int s.batch) := by
  unfold stf
  rw [lookup_putF, if_neg sn21, lookup_putF, if_neg sn20, lookup_putF, if_neg sn19, lookup_putF, if_neg sn18, lookup_putF, if_neg sn17, lookup_putF, if_neg sn16, lookup_putF, if_pos rfl]
theorem st4 : (stf s b).lookup ("early" : Str) = some (.bl s.early) := by
  unfold stf
  rw [lookup_putF, if_neg sn26, lookup_putF, if_neg sn25, lookup_putF, if_neg sn24, lookup_putF, if_neg sn23, lookup_putF, if_neg sn22, lookup_putF, if_pos rfl]
theorem st5 : (stf s b).lookup ("drain" : Str) = some (.bl s.drain) := by
  unfold stf
  rw [lookup_putF, if_neg sn30, lookup_putF, if_neg sn29, lookup_putF, if_neg sn28, lookup_putF, if_neg sn27, lookup_putF, if_pos rfl]
theorem st6 : (stf s b).lookup ("policy" : Str) = some (.str s.policy) := by
  unfold stf
  rw [lookup_putF, if_neg sn33, lookup_putF, if_neg sn32, lookup_putF, if_neg sn31, lookup_putF, if_pos rfl]
theorem st7 : (stf s b).lookup ("groups" : Str) = some (.int s.groups) := by
  unfold stf
  rw [lookup_putF, if_neg sn35, lookup_putF, if_neg sn34, lookup_putF, if_pos rfl]
theorem st8 : (stf s b).lookup ("tables" : Str) = some (.int s.tables) := by
  unfold stf
  rw [lookup_putF, if_neg sn36, lookup_putF, if_pos rfl]
theorem st9 : (stf s b).lookup ("book" : Str) = some (.ref b) := by
  unfold stf
  rw [lookup_putF, if_pos rfl]
end
def SetAt (K : PySem.W.Frag) (CS CB : Addr) (H : Hp) (a : Addr) (s : S8) (v : B5) : Prop := ∃ dx b, H a = some (.ins CS dx (stf s b)) ∧ s.Ok ∧ BookAt K CB H b v
theorem SetAt.same {K : PySem.W.Frag} {CS CB : Addr} {H H' : Hp} {a : Addr} {s : S8} {v : B5} (h : SetAt K CS CB H a s v) (e : Same H H') : SetAt K CS CB H' a s v := by
  obtain ⟨dx, b, h0, hs, hb⟩ := h
  exact ⟨dx, b, e _ _ h0, hs, hb.same e⟩
/-- what the walk asks of the class Setting -/
structure TSt (K : PySem.W.Frag) (mg : Str → Option Value) (CS : Addr) : Prop where
  cl : Cls K CS
  n1 : NoAttr K CS "copies"
  n2 : NoAttr K CS "cached"
  n3 : NoAttr K CS "batch"
  n4 : NoAttr K CS "early"
  n5 : NoAttr K CS "drain"
  n6 : NoAttr K CS "policy"
  n7 : NoAttr K CS "groups"
  n8 : NoAttr K CS "tables"
  n9 : NoAttr K CS "book"
  mgS : mg "Setting" = some (.ref CS)
/-- the argument book -/
def BkArg (K : PySem.W.Frag) (CB : Addr) (H : Hp) (x : V) (v : B5) : Prop := (x = .non ∧ v = std5) ∨ ∃ b, x = .ref b ∧ BookAt K CB H b v
def spStInit (K : PySem.W.Frag) (CS CB : Addr) : Sp := fun vs H Q _ => ∃ (p dx : Addr) (s : S8) (bk : V) (v : B5), vs = .ref p :: (vals8 s ++ [bk]) ∧ H p = some (.ins CS dx []) ∧ s.Ok ∧ BkArg K CB H bk v ∧
  ∀ H' b', (∀ q o, q ≠ p → H q = some o → H' q = some o) → H' p = some (.ins CS dx (stf s b')) → H b' = none → BookAt K CB H' b' v → Q .non H'
section
variable {P : Program} {w : World} {K : PySem.W.Frag} {mg : Str → Option Value} {base : Heap} {CS CB dT wT cT pT : Addr}
theorem scStInit : FnScope NSt NSt (defScope s_Setting___init__) := ⟨rfl, rfl, rfl, by decide +kernel, rfl, by decide +kernel, by decide +kernel⟩
theorem ok_stinit {f fC fW fS fI : Addr} {fd fdC fdW fdS fdI : FuncData} {kws : List (Str × V)} (F : FunD K "__init__" "Setting.__init__" (defArgs s_Setting___init__) (defBody s_Setting___init__) (defScope s_Setting___init__) [] kws f fd) (U : TSt K mg CS) (T : TBk K mg CB) (Z : IsR K CB) (isi : mg "isinstance" = none) (bool : mg "bool" = none) (D : DirAt K mg dT wT cT pT)
    (GC : FnOk P w K mg base CX0 1 fC fdC ["fields"] spCheck) (DC : Def K mg "_check" fC fdC ["fields"]) (GW : FnOk P w K mg base CX0 2 fW fdW ["value", "least", "most"] (spWhole K)) (DW : Def K mg "whole" fW fdW ["value", "least", "most"])
    (GS : FnOk P w K mg base CX0 4 fS fdS ["book"] (spSame K CB)) (DS : Def K mg "_same_book" fS fdS ["book"]) (M : Mk K CB fI) (GI : FnOk P w K mg base CX0 2 fI fdI NBk (spBInit K CB)) (FI : FB K dT wT fI fdI) : FnOk P w K mg base CX0 5 f fd NSt (spStInit K CS CB) := by
  obtain ⟨g0, hb0⟩ := kb_none FI
  refine F.ok scStInit (fun vs H Q E h => ?_) (fun cdv A outer s H vs Q E hr h => ?_)
  · obtain ⟨p, dx, s, bk, v, rfl, _⟩ := h
    rfl
  · obtain ⟨p, dx, s, bk, v, rfl, hp, hs, hB, k⟩ := h
    refine ⟨_, pss_cons (ps_expr (pe_call GC (hr.mono (by decide)) (by rfl) DC.at_ DC.kp DC.bd .nil pass0 (pa_cons (pe_lst (pa_cons (pe_tup (pa_cons pe_str (pa_cons (pe_cmpR (r := rIn K false) op_in_seq (pv 1) (pe_glob (v := .ref cT) rfl D.cop rfl) (by rfl)) pa_nil)))
          (pa_cons (pe_tup (pa_cons pe_str (pa_cons (pe_callB call_isi (by rfl) isi (by decide +kernel) (pa_cons (pv 2) (pa_cons (pe_bltn (v := .ty "bool") (by rfl) bool (by decide +kernel) rfl) pa_nil))) pa_nil)))
          (pa_cons (pe_tup (pa_cons pe_str (pa_cons (pe_call GW (hr.mono (by decide)) (by rfl) DW.at_ DW.kp DW.bd .nil pass0 (pa_cons (pv 3) (pa_cons pe_int (pa_cons pe_int pa_nil)))) pa_nil)))
          (pa_cons (pe_tup (pa_cons pe_str (pa_cons (pe_callB call_isi (by rfl) isi (by decide +kernel) (pa_cons (pv 4) (pa_cons (pe_bltn (v := .ty "bool") (by rfl) bool (by decide +kernel) rfl) pa_nil))) pa_nil)))
          (pa_cons (pe_tup (pa_cons pe_str (pa_cons (pe_callB call_isi (by rfl) isi (by decide +kernel) (pa_cons (pv 5) (pa_cons (pe_bltn (v := .ty "bool") (by rfl) bool (by decide +kernel) rfl) pa_nil))) pa_nil)))
          (pa_cons (pe_tup (pa_cons pe_str (pa_cons (pe_cmpR (r := rIn K false) op_in_seq (pv 6) (pe_glob (v := .ref pT) rfl D.pol rfl) (by rfl)) pa_nil)))
          (pa_cons (pe_tup (pa_cons pe_str (pa_cons (pe_call GW (hr.mono (by decide)) (by rfl) DW.at_ DW.kp DW.bd .nil pass0 (pa_cons (pv 7) (pa_cons pe_int (pa_cons pe_int pa_nil)))) pa_nil)))
          (pa_cons (pe_tup (pa_cons pe_str (pa_cons (pe_call GW (hr.mono (by decide)) (by rfl) DW.at_ DW.kp DW.bd .nil pass0 (pa_cons (pv 8) (pa_cons pe_int (pa_cons pe_int pa_nil)))) pa_nil)))
          (pa_cons (pe_tup (pa_cons pe_str (pa_cons (pe_or (pe_cmpR op_isN (pv 9) pe_non (nomark _)) (pe_one (pe_callB call_isi (by rfl) isi (by decide +kernel) (pa_cons (pv 9) (pa_cons (pe_glob (v := .ref CB) rfl T.mgB rfl) pa_nil))))) pa_nil)))
          pa_nil)))))))))) pa_nil)))
      (pss_cons (ps_fld (pv 0) (pv 1) rfl) (pss_cons (ps_fld (pv 0) (pv 2) rfl) (pss_cons (ps_fld (pv 0) (pv 3) rfl) (pss_cons (ps_fld (pv 0) (pv 4) rfl) (pss_cons (ps_fld (pv 0) (pv 5) rfl) (pss_cons (ps_fld (pv 0) (pv 6) rfl) (pss_cons (ps_fld (pv 0) (pv 7) rfl) (pss_cons (ps_fld (pv 0) (pv 8) rfl) (pss_one (ps_fld (pv 0) (pe_ifExp (pt_cmpR op_isN (pv 9) pe_non (nomark _)) (pe_makeK0 M GI (hr.mono (by decide)) (by rfl) T.mgB hb0 pass0 pk_nil) (pe_call GS hr (by rfl) DS.at_ DS.kp DS.bd .nil pass0 (pa_cons (pv 9) pa_nil))) rfl)))))))))), ?_⟩
    have c1 := hs.c
    refine ⟨_, rfl, cT, cpV, rfl, .inr (D.cops _), rfl, rfl, ?_⟩
    rw [show (if false = true then !inV (.str s.copies) cpV else inV (.str s.copies) cpV) = true from c1]
    refine ⟨(by show 2 ≤ sizeLine; decide), fun u1 nu1 => ?_⟩
    have su1 := put_same (o := .tup [.str "copies", .bl true]) nu1
    have k1 := su1
    refine ⟨_, rfl, _, _, .type "bool", .type "bool", true, rfl, .ty "bool", .base (.bl _), kit_ty (by decide +kernel), (by show 2 ≤ sizeLine; decide), fun u2 nu2 => ?_⟩
    have su2 := put_same (o := .tup [.str "cached", .bl true]) nu2
    have k2 := k1.trans su2
    have c3 : decide ((0 : Int) ≤ s.batch ∧ s.batch ≤ 8) = true := decide_eq_true ⟨hs.b0, hs.b1⟩
    refine ⟨_, rfl, _, _, _, rfl, .inl ⟨_, rfl, ?_⟩⟩
    rw [c3]
    refine ⟨(by show 2 ≤ sizeLine; decide), fun u3 nu3 => ?_⟩
    have su3 := put_same (o := .tup [.str "batch", .bl true]) nu3
    have k3 := k2.trans su3
    refine ⟨_, rfl, _, _, .type "bool", .type "bool", true, rfl, .ty "bool", .base (.bl _), kit_ty (by decide +kernel), (by show 2 ≤ sizeLine; decide), fun u4 nu4 => ?_⟩
    have su4 := put_same (o := .tup [.str "early", .bl true]) nu4
    have k4 := k3.trans su4
    refine ⟨_, rfl, _, _, .type "bool", .type "bool", true, rfl, .ty "bool", .base (.bl _), kit_ty (by decide +kernel), (by show 2 ≤ sizeLine; decide), fun u5 nu5 => ?_⟩
    have su5 := put_same (o := .tup [.str "drain", .bl true]) nu5
    have k5 := k4.trans su5
    have c6 := hs.p
    refine ⟨_, rfl, pT, plV, rfl, .inr (D.pols _), rfl, rfl, ?_⟩
    rw [show (if false = true then !inV (.str s.policy) plV else inV (.str s.policy) plV) = true from c6]
    refine ⟨(by show 2 ≤ sizeLine; decide), fun u6 nu6 => ?_⟩
    have su6 := put_same (o := .tup [.str "policy", .bl true]) nu6
    have k6 := k5.trans su6
    have c7 : decide ((1 : Int) ≤ s.groups ∧ s.groups ≤ 32) = true := decide_eq_true ⟨hs.g0, hs.g1⟩
    refine ⟨_, rfl, _, _, _, rfl, .inl ⟨_, rfl, ?_⟩⟩
    rw [c7]
    refine ⟨(by show 2 ≤ sizeLine; decide), fun u7 nu7 => ?_⟩
    have su7 := put_same (o := .tup [.str "groups", .bl true]) nu7
    have k7 := k6.trans su7
    have c8 : decide ((1 : Int) ≤ s.tables ∧ s.tables ≤ 32) = true := decide_eq_true ⟨hs.t0, hs.t1⟩
    refine ⟨_, rfl, _, _, _, rfl, .inl ⟨_, rfl, ?_⟩⟩
    rw [c8]
    refine ⟨(by show 2 ≤ sizeLine; decide), fun u8 nu8 => ?_⟩
    have su8 := put_same (o := .tup [.str "tables", .bl true]) nu8
    have k8 := k7.trans su8
    refine ⟨_, rfl, rfl, _, rfl, ite_same ?rest fun hc q => ?isb⟩
    case isb =>
      rcases hB with ⟨rfl, _⟩ | ⟨b, rfl, hb⟩
      · cases hc
      · obtain ⟨dxb, _, _, _, _, _, eb, _⟩ := hb.same k8
        exact ⟨_, rfl, _, _, .ref CB, .ref CB, true, rfl, .own CB, .base (.ins eb T.cl Z.ha Z.hn Z.htk Z.hm), kit_self, q⟩
    refine ⟨(by show 2 ≤ sizeLine; decide), fun u9 nu9 => ?_⟩
    have su9 := put_same (o := .tup [.str "book", .bl true]) nu9
    have k9 := k8.trans su9
    refine ⟨(by show 9 ≤ sizeLine; decide), fun l nl => ?_⟩
    have sl := put_same (o := .lst [.ref u1, .ref u2, .ref u3, .ref u4, .ref u5, .ref u6, .ref u7, .ref u8, .ref u9]) nl
    have kl := k9.trans sl
    refine ⟨l, [u1, u2, u3, u4, u5, u6, u7, u8, u9], ["copies", "cached", "batch", "early", "drain", "policy", "groups", "tables", "book"], rfl, upd_same, (.cons (sl _ _ (su9 _ _ (su8 _ _ (su7 _ _ (su6 _ _ (su5 _ _ (su4 _ _ (su3 _ _ (su2 _ _ upd_same))))))))) (.cons (sl _ _ (su9 _ _ (su8 _ _ (su7 _ _ (su6 _ _ (su5 _ _ (su4 _ _ (su3 _ _ upd_same)))))))) (.cons (sl _ _ (su9 _ _ (su8 _ _ (su7 _ _ (su6 _ _ (su5 _ _ (su4 _ _ upd_same))))))) (.cons (sl _ _ (su9 _ _ (su8 _ _ (su7 _ _ (su6 _ _ (su5 _ _ upd_same)))))) (.cons (sl _ _ (su9 _ _ (su8 _ _ (su7 _ _ (su6 _ _ upd_same))))) (.cons (sl _ _ (su9 _ _ (su8 _ _ (su7 _ _ upd_same)))) (.cons (sl _ _ (su9 _ _ (su8 _ _ upd_same))) (.cons (sl _ _ (su9 _ _ upd_same)) (.cons (sl _ _ upd_same) .nil))))))))), ?_⟩
    have ep := kl _ _ hp
    generalize upd _ l _ = HL at ep kl
    refine ⟨_, rfl, _, rfl, p, CS, dx, [], rfl, ep, U.cl, U.n1, (by show 0 < 1000; decide), ?_⟩
    refine ⟨_, rfl, _, rfl, p, CS, dx, _, rfl, upd_same, U.cl, U.n2, (by show 1 < 1000; decide), ?_⟩
    refine ⟨_, rfl, _, rfl, p, CS, dx, _, rfl, upd_same, U.cl, U.n3, (by show 2 < 1000; decide), ?_⟩
    refine ⟨_, rfl, _, rfl, p, CS, dx, _, rfl, upd_same, U.cl, U.n4, (by show 3 < 1000; decide), ?_⟩
    refine ⟨_, rfl, _, rfl, p, CS, dx, _, rfl, upd_same, U.cl, U.n5, (by show 4 < 1000; decide), ?_⟩
    refine ⟨_, rfl, _, rfl, p, CS, dx, _, rfl, upd_same, U.cl, U.n6, (by show 5 < 1000; decide), ?_⟩
    refine ⟨_, rfl, _, rfl, p, CS, dx, _, rfl, upd_same, U.cl, U.n7, (by show 6 < 1000; decide), ?_⟩
    refine ⟨_, rfl, _, rfl, p, CS, dx, _, rfl, upd_same, U.cl, U.n8, (by show 7 < 1000; decide), ?_⟩
    repeat rw [upd_upd]
    have offp : ∀ o', ∀ q o, q ≠ p → H q = some o → (upd HL p o') q = some o := fun o' q o hq e => by
      rw [upd_ne hq]
      exact kl _ _ e
    generalize hM : (HO.ins CS dx (putF "tables" (.int s.tables) (putF "groups" (.int s.groups) (putF "policy" (.str s.policy) (putF "drain" (.bl s.drain) (putF "early" (.bl s.early) (putF "batch" (.int s.batch) (putF "cached" (.bl s.cached) (putF "copies" (.str s.copies) []))))))))) = oM
    replace offp := offp oM
    have eM : (upd HL p oM) p = some oM := upd_same
    generalize upd HL p oM = HM at offp eM ⊢
    subst hM
    have inp : ∀ {a : Addr} {xs : List V}, SqT K H a xs → SqT K HM a xs := fun h => sqT_upd h (fun ys z => by rw [hp] at z; cases z) (fun o ys z => by rw [hp] at z; cases z) offp
    refine ⟨_, rfl, rfl, _, rfl, ?_⟩
    rcases hB with ⟨rfl, rfl⟩ | ⟨b, rfl, hb⟩
    · refine iteT ⟨rfl, rfl, fun x dxx nx nd ne => ?_⟩
      obtain ⟨s0, fin⟩ := book_new (CB := CB) (H3 := HM) nx nd ne ok_std (D.dirs HM) (D.wris HM) (D.dirs HM) (D.dirs HM) (D.wris HM)
      refine ⟨x, dxx, dT, wT, dT, dT, wT, std5, rfl, upd_same, ok_std, D.dirs _, D.wris _, D.dirs _, D.dirs _, D.wris _, fun H3 hk e3 => ⟨rfl, ?_⟩⟩
      obtain ⟨s3, b3⟩ := (book_new (CB := CB) (H3 := H3) nx nd ne ok_std (D.dirs HM) (D.wris HM) (D.dirs HM) (D.dirs HM) (D.wris HM)).2 hk e3
      refine ⟨_, rfl, p, CS, dx, _, rfl, s3 _ _ eM, U.cl, U.n9, (by show 8 < 1000; decide), ?_⟩
      have nxH : H x = none := by
        cases q : H x with
        | none => rfl
        | some o =>
          by_cases z : x = p
          · rw [z, eM] at nx
            cases nx
          · rw [offp _ _ z q] at nx
            cases nx
      have nep : x ≠ p := fun z => by rw [z, eM] at nx; cases nx
      exact k _ x (fun q o hq e => by rw [upd_ne hq]; exact s3 _ _ (offp _ _ hq e)) upd_same nxH (by
        obtain ⟨d1, r1, r2, r3, r4, r5, q0, qv, q1, q2, q3, q4, q5⟩ := b3
        refine ⟨d1, r1, r2, r3, r4, r5, by rw [upd_ne nep]; exact q0, qv, ?_, ?_, ?_, ?_, ?_⟩
        all_goals refine sqT_upd (by assumption) (fun ys z => ?_) (fun o ys z => ?_) (fun q o hq e => by rw [upd_ne hq]; exact e)
        all_goals
          rw [s3 _ _ eM] at z
          cases z)
    · refine iteF ⟨_, rfl, b, v, rfl, ?_, fun H3 x s3 nx b3 => ?_⟩
      · obtain ⟨d1, r1, r2, r3, r4, r5, q0, qv, q1, q2, q3, q4, q5⟩ := hb
        exact ⟨d1, r1, r2, r3, r4, r5, offp _ _ (fun z => by rw [z, hp] at q0; injection q0 with q0; injection q0 with _ _ q0; exact absurd (congrArg (fun l => l.lookup ("take_copied" : Str)) q0) (by rw [bk5]; simp)) q0, qv, inp q1, inp q2, inp q3, inp q4, inp q5⟩
      refine ⟨_, rfl, p, CS, dx, _, rfl, s3 _ _ eM, U.cl, U.n9, (by show 8 < 1000; decide), ?_⟩
      have nxH : H x = none := by
        cases q : H x with
        | none => rfl
        | some o =>
          by_cases z : x = p
          · rw [z, eM] at nx
            cases nx
          · rw [offp _ _ z q] at nx
            cases nx
      have nep : x ≠ p := fun z => by rw [z, eM] at nx; cases nx
      exact k _ x (fun q o hq e => by rw [upd_ne hq]; exact s3 _ _ (offp _ _ hq e)) upd_same nxH (by
        obtain ⟨d1, r1, r2, r3, r4, r5, q0, qv, q1, q2, q3, q4, q5⟩ := b3
        refine ⟨d1, r1, r2, r3, r4, r5, by rw [upd_ne nep]; exact q0, qv, ?_, ?_, ?_, ?_, ?_⟩
        all_goals refine sqT_upd (by assumption) (fun ys z => ?_) (fun o ys z => ?_) (fun q o hq e => by rw [upd_ne hq]; exact e)
        all_goals
          rw [s3 _ _ eM] at z
          cases z)
end
end Sc
/-! a != y, a an instance of a class with an own == and no own !=. -/
namespace Ow
open PySem PySem.Spec PyProof.Rows L2
theorem ne_binds (self : Value) : bindSpecial (.builtin "object.__ne__") self = pure (.builtin "object.__ne__", [self]) :=
  (Slot.of (T := "object") (name := "__ne__") (owner := "object") (n := "__ne__") (by rw [typeLookup_type, builtinLookup_eq_fast]; kernel_rfl) (by decide +kernel) (by decide +kernel) (by decide +kernel)
    (.inl (by decide +kernel)) (by rw [isSubtype_type]; kernel_rfl)).bind self
theorem ne_plain : plainId "object.__ne__" = true := by decide +kernel
def NeBack (Q : Value → Shared → Prop) (v : Value) (s' : Shared) : Prop := ∃ b, v = .bool b ∧ Q (.bool (!b)) s'
section
variable {prog : Program} {w : World} {A : Around} {E : Value → Shared → Prop} {s : Shared} {K : PySem.W.Frag} {x C L f : Addr} {h₀ : Heap} {m : Str → Option Value} {ox : Obj} {od : Option Obj} {b tb : Value}
theorem call_ne {Q : Value → Shared → Prop} (X : K.In s.heap) (I : PySem.W.InstAt s.heap x ox C od) (hm : PySem.W.mroIn K C (.type "object") = some true) (hs : PySem.W.findIn K (.ref C) "__eq__" = some (some (.ref f))) (hf : PySem.W.isFn K (.ref f) = true)
    (hu : A.units + 1 < cLine) (h : wpAny (model prog w) A.in1 (call (.ref f) [.ref x, b]) (NeBack Q) E s) : wpAny (model prog w) A (call (.builtin "object.__ne__") [.ref x, b]) Q E s := by
  refine wpAny_call (codeAny_call_builtin ne_plain F.cmpEntry_ne (PySem.W.check_slot F.cmpKind_ne F.cmpSplit_ne (I.type.andThen (PySem.W.looks_mroIn X hm)) (F.cmpArgs_ne _ _) ?_))
  have hu' : A.in1.units < cLine := hu
  have hX : wpAny (model prog w) A.in1 (callSpecialIfBound? (.ref x) "__eq__" [b]) (fun r s' => ∃ v, r = some v ∧ NeBack Q v s') E s := PySem.W.ifBound_K X I hs hf (wpAny_mono h (fun v s' q => ⟨v, rfl, q⟩) fun _ _ z => z)
  unfold Builtin.«object.__ne__»
  refine wpAny_bind (wpAny_pure ?_)
  refine wpAny_bind (wpAny_cRoomFor hu' ?_)
  refine wpAny_bind (wpAny_mono hX (fun r s' q => ?_) fun _ _ z => z)
  obtain ⟨v, rfl, b', rfl, q⟩ := q
  exact wpAny_bind (wpAny_truthy_bool (wpAny_pure q))
theorem try_ne {Q : Option Value → Shared → Prop} (X : K.In s.heap) (I : PySem.W.InstAt s.heap x ox C od) (hn : PySem.W.findIn K (.ref C) "__ne__" = some (some (.builtin "object.__ne__"))) (h : wpAny (model prog w) A (call (.builtin "object.__ne__") [.ref x, b]) (fun v s' => v ≠ .notImplemented ∧ Q (some v) s') E s) :
    wpAny (model prog w) A (tryCompare (.ref x) "__ne__" b) Q E s := by
  have run : wpAny (model prog w) A (call (.builtin "object.__ne__") ([.ref x] ++ [b]) >>= fun v => pure (some v)) (fun r s' => ∃ v, r = some v ∧ v ≠ .notImplemented ∧ Q (some v) s') E s := wpAny_bind (wpAny_mono h (fun v s' q => wpAny_pure ⟨v, rfl, q⟩) fun _ _ z => z)
  have go : wpAny (model prog w) A (callSpecialIfBound? (.ref x) "__ne__" [b]) (fun r s' => ∃ v, r = some v ∧ v ≠ .notImplemented ∧ Q (some v) s') E s := by
    unfold callSpecialIfBound? bindSpecialIfBound?
    refine wpAny_holding ?_
    refine wpAny_bind (wpAny_bind (wpAny_bind (I.type.here ((PySem.W.looks_findIn X hn).here ?_))))
    dsimp only
    rw [ne_binds]
    refine wpAny_bind (wpAny_askSetting (wpAny_ite ?_))
    split
    · exact wpAny_bind (wpAny_pure (wpAny_pure (by exact run)))
    · exact wpAny_tryCatch (wpAny_bind (wpAny_pure (wpAny_pure (by exact run))))
  unfold tryCompare
  refine wpAny_bind (wpAny_mono go (fun r s' q => ?_) fun _ _ z => z)
  obtain ⟨v, rfl, ne, q⟩ := q
  cases v <;> first | exact absurd rfl ne | exact wpAny_pure q
theorem cmp_ne {Q : Value → Shared → Prop} (hu : A.units + 1 < cLine) (X : K.In s.heap) (I : PySem.W.InstAt s.heap x ox C od) (hb : PySem.W.Looks (model prog w) s.heap (typeOf b) tb) (hn : PySem.W.notFirst K C tb = true) (hne : PySem.W.findIn K (.ref C) "__ne__" = some (some (.builtin "object.__ne__")))
    (hm : PySem.W.mroIn K C (.type "object") = some true) (hs : PySem.W.findIn K (.ref C) "__eq__" = some (some (.ref f))) (hf : PySem.W.isFn K (.ref f) = true) (h : wpAny (model prog w) A.in1 (call (.ref f) [.ref x, b]) (NeBack Q) E s) :
    wpAny (model prog w) A (compareOp .NotEq (.ref x) b) Q E s := by
  have one : wpAny (model prog w) A (tryCompare (.ref x) "__ne__" b) (fun r s' => ∃ v, r = some v ∧ Q v s') E s := try_ne X I hne (call_ne X I hm hs hf hu (wpAny_mono h (fun v s' q => by
    obtain ⟨c, rfl, q⟩ := q
    exact ⟨c, rfl, (fun z => nomatch z), ⟨_, rfl, q⟩⟩) fun _ _ z => z))
  show wpAny _ _ (richCompare .NotEq (.ref x) b) _ _ _
  unfold richCompare
  rw [oneThing_ref]
  refine wpAny_holding (wpAny_bind (wpAny_cRoomFor (Nat.lt_of_succ_lt hu) (wpAny_bind (I.type.here (wpAny_bind (hb.here ?_))))))
  have tail : ∀ {α : Type} {k : Option Value → Sem Value}, (∀ v, k (some v) = pure v) → wpAny (model prog w) A (tryCompare (.ref x) "__ne__" b >>= k) Q E s := fun hk => wpAny_bind (wpAny_mono one (fun r s' z => by
    obtain ⟨v, rfl, q⟩ := z
    rw [hk]
    exact wpAny_pure q) fun _ _ e => e)
  by_cases e : tb = .ref C
  · subst e
    rw [if_neg (by simp)]
    exact wpAny_bind (wpAny_pure (tail (α := Unit) fun v => rfl))
  · have e2 : PySem.W.subIn K tb (.ref C) = some false := by
      have z := hn
      unfold PySem.W.notFirst at z
      simpa [e] using z
    rw [if_pos (by simpa using fun z => e z.symm)]
    exact wpAny_bind ((PySem.W.looks_subIn X e2).here (tail (α := Unit) fun v => rfl))
end
section
variable {X : Cx} {CX : CXT} {k : Nat} {C f : Addr} {fd : FuncData} {ps : List Str} {sp : Sp} {E : XK}
/-- a != y -/
def rNeO (K : PySem.W.Frag) (C : Addr) (sp : Sp) (E : XK) : R2 := fun x y H Q => ∃ a dx fs t, x = .ref a ∧ H a = some (.ins C dx fs) ∧ TyX K H y t ∧ PySem.W.notFirst K C t = true ∧ sp [.ref a, y] H (fun v H' => ∃ b, v = .bl b ∧ Q (.bl (!b)) H') E
theorem op_neO (F : FnOk X.prog X.w X.K X.mg X.base CX k f fd ps sp) (hr : Room (k + 1) X.A) (hn : PySem.W.findIn X.K (.ref C) "__ne__" = some (some (.builtin "object.__ne__"))) (hm : PySem.W.mroIn X.K C (.type "object") = some true)
    (hs : PySem.W.findIn X.K (.ref C) "__eq__" = some (some (.ref f))) (hf : PySem.W.isFn X.K (.ref f) = true) (hb : Binds X.K fd ps []) (hx : Passes CX X E) : OpR X (compareOp .NotEq) (rNeO X.K C sp E) := by
  intro pins s σ H x y v u Q I rx ry h
  obtain ⟨a, dx, fs, t, rfl, ha, ty, hnf, q⟩ := h
  obtain rfl : v = Value.ref a := rx
  obtain ⟨mA, J, _⟩ := ins_get I.hok ha
  obtain ⟨od, J, _⟩ := J.look
  obtain ⟨P, kx, hP, _⟩ := kit_of I ry ty
  refine cmp_ne (tb := t) hr.in1.units0 I.kIn J (kx.ty _ _ I.kIn hP) hnf hn hm hs hf (wpAny_mono (run_own F hr.in1 I.env0.in1 hb hx I (vs := [.ref a, y]) (.cons (show RelV (.ref a) (.ref a) from rfl) (.cons ry .nil)) q) (fun w s' hq => ?_) fun _ _ z => z)
  obtain ⟨z, H', I', rw', b, rfl, q'⟩ := hq
  cases rw'
  exact ⟨b, rfl, .bl (!b), H', I', rfl, q'⟩
end
end Ow
/-! Books and settings compared with anything. -/
namespace Sc
open PySem L2
def spBEq (K : PySem.W.Frag) (CB : Addr) : Sp := fun vs H Q _ => ∃ (a : Addr) (v : B5) (y : V), vs = [.ref a, y] ∧ BookAt K CB H a v ∧
  ((∃ (b : Addr) (u : B5), y = .ref b ∧ BookAt K CB H b u ∧ Q (.bl (decide (v = u))) H) ∨ ∃ t, TyX K H y t ∧ PySem.W.kitOne K t (.ref CB) = some false ∧ Q (.bl false) H)
def spSEq (K : PySem.W.Frag) (CS CB : Addr) : Sp := fun vs H Q _ => ∃ (a : Addr) (s : S8) (v : B5) (y : V), vs = [.ref a, y] ∧ SetAt K CS CB H a s v ∧
  ((∃ (b : Addr) (r : S8) (u : B5), y = .ref b ∧ SetAt K CS CB H b r u ∧ Q (.bl (decide (s = r ∧ v = u))) H) ∨ ∃ t, TyX K H y t ∧ PySem.W.kitOne K t (.ref CS) = some false ∧ Q (.bl false) H)
section
variable {P : Program} {w : World} {K : PySem.W.Frag} {mg : Str → Option Value} {base : Heap} {CS CB : Addr}
theorem scBEq : FnScope ["self", "other"] ["self", "other"] (defScope s_Book___eq__) := ⟨rfl, rfl, rfl, by decide +kernel, rfl, by decide +kernel, by decide +kernel⟩
theorem ok_beq {f : Addr} {fd : FuncData} (F : Fun K "__eq__" "Book.__eq__" s_Book___eq__ f fd) (T : TBk K mg CB) (Z : IsR K CB) (isi : mg "isinstance" = none) : FnOk P w K mg base CX0 1 f fd ["self", "other"] (spBEq K CB) := by
  refine F.ok scBEq (fun vs H Q E h => ?_) (fun cdv A outer s H vs Q E hr h => ?_)
  · obtain ⟨a, v, y, rfl, _⟩ := h
    rfl
  · obtain ⟨a, ⟨v1, v2, v3, v4, v5⟩, y, rfl, ⟨dx, a1, a2, a3, a4, a5, ea, ⟨va1, va2, va3, va4, va5⟩, sa1, sa2, sa3, sa4, sa5⟩, k⟩ := h
    refine ⟨_, pss_one (ps_ret (pe_and (pe_callB call_isi (by rfl) isi (by decide +kernel) (pa_cons (pv 1) (pa_cons (pe_glob (v := .ref CB) rfl T.mgB rfl) pa_nil))) (pe_and (pe_cmpR (op_eqD hr.units) (pe_fld (pv 0) rfl) (pe_fld (pv 1) rfl) (nomark _)) (pe_and (pe_cmpR (op_eqD hr.units) (pe_fld (pv 0) rfl) (pe_fld (pv 1) rfl) (nomark _)) (pe_and (pe_cmpR (op_eqD hr.units) (pe_fld (pv 0) rfl) (pe_fld (pv 1) rfl) (nomark _)) (pe_and (pe_cmpR (op_eqD hr.units) (pe_fld (pv 0) rfl) (pe_fld (pv 1) rfl) (nomark _)) (pe_one (pe_cmpR (op_eqD hr.units) (pe_fld (pv 0) rfl) (pe_fld (pv 1) rfl) (nomark _))))))))), ?_⟩
    rcases k with ⟨b, ⟨u1, u2, u3, u4, u5⟩, rfl, ⟨dy, b1, b2, b3, b4, b5, eb, ⟨vb1, vb2, vb3, vb4, vb5⟩, sb1, sb2, sb3, sb4, sb5⟩, k⟩ | ⟨t, ty, hk, k⟩
    · refine ⟨_, rfl, _, _, .ref CB, .ref CB, true, rfl, .own CB, .base (.ins eb T.cl Z.ha Z.hn Z.htk Z.hm), kit_self, true, rfl, iteT ?_⟩
      refine ⟨_, rfl, a, CB, dx, _, _, rfl, ea, T.cl, T.n1, bk1 .., _, rfl, b, CB, dy, _, _, rfl, eb, T.cl, T.n1, bk1 .., dW v1, dW u1, dp_w sa1, dp_w sb1, shaped_w _, shaped_w _, ?_⟩
      rw [eqv_w va1 vb1]
      refine ⟨_, rfl, ?_⟩
      by_cases z1 : v1 = u1
      case neg =>
        rw [decide_eq_false z1]
        rw [show decide ((v1, v2, v3, v4, v5) = (u1, u2, u3, u4, u5)) = false from decide_eq_false fun q => z1 (by injections)] at k
        exact iteF k
      subst z1
      rw [decide_eq_true rfl]
      refine iteT ?_
      refine ⟨_, rfl, a, CB, dx, _, _, rfl, ea, T.cl, T.n2, bk2 .., _, rfl, b, CB, dy, _, _, rfl, eb, T.cl, T.n2, bk2 .., dW v2, dW u2, dp_w sa2, dp_w sb2, shaped_w _, shaped_w _, ?_⟩
      rw [eqv_w va2 vb2]
      refine ⟨_, rfl, ?_⟩
      by_cases z2 : v2 = u2
      case neg =>
        rw [decide_eq_false z2]
        rw [show decide ((v1, v2, v3, v4, v5) = (v1, u2, u3, u4, u5)) = false from decide_eq_false fun q => z2 (by injections)] at k
        exact iteF k
      subst z2
      rw [decide_eq_true rfl]
      refine iteT ?_
      refine ⟨_, rfl, a, CB, dx, _, _, rfl, ea, T.cl, T.n3, bk3 .., _, rfl, b, CB, dy, _, _, rfl, eb, T.cl, T.n3, bk3 .., dW v3, dW u3, dp_w sa3, dp_w sb3, shaped_w _, shaped_w _, ?_⟩
      rw [eqv_w va3 vb3]
      refine ⟨_, rfl, ?_⟩
      by_cases z3 : v3 = u3
      case neg =>
        rw [decide_eq_false z3]
        rw [show decide ((v1, v2, v3, v4, v5) = (v1, v2, u3, u4, u5)) = false from decide_eq_false fun q => z3 (by injections)] at k
        exact iteF k
      subst z3
      rw [decide_eq_true rfl]
      refine iteT ?_
      refine ⟨_, rfl, a, CB, dx, _, _, rfl, ea, T.cl, T.n4, bk4 .., _, rfl, b, CB, dy, _, _, rfl, eb, T.cl, T.n4, bk4 .., dW v4, dW u4, dp_w sa4, dp_w sb4, shaped_w _, shaped_w _, ?_⟩
      rw [eqv_w va4 vb4]
      refine ⟨_, rfl, ?_⟩
      by_cases z4 : v4 = u4
      case neg =>
        rw [decide_eq_false z4]
        rw [show decide ((v1, v2, v3, v4, v5) = (v1, v2, v3, u4, u5)) = false from decide_eq_false fun q => z4 (by injections)] at k
        exact iteF k
      subst z4
      rw [decide_eq_true rfl]
      refine iteT ?_
      refine ⟨_, rfl, a, CB, dx, _, _, rfl, ea, T.cl, T.n5, bk5 .., _, rfl, b, CB, dy, _, _, rfl, eb, T.cl, T.n5, bk5 .., dW v5, dW u5, dp_w sa5, dp_w sb5, shaped_w _, shaped_w _, ?_⟩
      rw [eqv_w va5 vb5]
      rw [show decide ((v1, v2, v3, v4, v5) = (v1, v2, v3, v4, u5)) = decide (v5 = u5) from decide_eq_decide.mpr ⟨fun q => by injections, fun q => by rw [q]⟩] at k
      exact k
    · exact ⟨_, rfl, _, _, t, .ref CB, false, rfl, .own CB, ty, hk, false, rfl, iteF k⟩
theorem scSEq : FnScope ["self", "other"] ["self", "other"] (defScope s_Setting___eq__) := ⟨rfl, rfl, rfl, by decide +kernel, rfl, by decide +kernel, by decide +kernel⟩
theorem ok_seq {f fB : Addr} {fd fdB : FuncData} (F : Fun K "__eq__" "Setting.__eq__" s_Setting___eq__ f fd) (U : TSt K mg CS) (ZS : IsR K CS) (T : TBk K mg CB) (Z : IsR K CB) (isi : mg "isinstance" = none) (GB : FnOk P w K mg base CX0 1 fB fdB ["self", "other"] (spBEq K CB))
    (hsB : PySem.W.findIn K (.ref CB) "__eq__" = some (some (.ref fB))) (hfB : PySem.W.isFn K (.ref fB) = true) (bB : Binds K fdB ["self", "other"] []) (nfB : PySem.W.notFirst K CB (.ref CB) = true) : FnOk P w K mg base CX0 2 f fd ["self", "other"] (spSEq K CS CB) := by
  refine F.ok scSEq (fun vs H Q E h => ?_) (fun cdv A outer s H vs Q E hr h => ?_)
  · obtain ⟨a, s, v, y, rfl, _⟩ := h
    rfl
  · obtain ⟨a, ⟨s1, s2, s3, s4, s5, s6, s7, s8⟩, v, y, rfl, ⟨dx, ba, ea, oa, hba⟩, k⟩ := h
    refine ⟨_, pss_one (ps_ret (pe_and (pe_callB call_isi (by rfl) isi (by decide +kernel) (pa_cons (pv 1) (pa_cons (pe_glob (v := .ref CS) rfl U.mgS rfl) pa_nil))) (pe_and (pe_cmpR op_eq (pe_fld (pv 0) rfl) (pe_fld (pv 1) rfl) (nomark _)) (pe_and (pe_cmpR op_eq (pe_fld (pv 0) rfl) (pe_fld (pv 1) rfl) (nomark _)) (pe_and (pe_cmpR op_eq (pe_fld (pv 0) rfl) (pe_fld (pv 1) rfl) (nomark _)) (pe_and (pe_cmpR op_eq (pe_fld (pv 0) rfl) (pe_fld (pv 1) rfl) (nomark _)) (pe_and (pe_cmpR op_eq (pe_fld (pv 0) rfl) (pe_fld (pv 1) rfl) (nomark _)) (pe_and (pe_cmpR op_eq (pe_fld (pv 0) rfl) (pe_fld (pv 1) rfl) (nomark _)) (pe_and (pe_cmpR op_eq (pe_fld (pv 0) rfl) (pe_fld (pv 1) rfl) (nomark _)) (pe_and (pe_cmpR op_eq (pe_fld (pv 0) rfl) (pe_fld (pv 1) rfl) (nomark _)) (pe_one (pe_cmpR (Ow.op_eqO GB (hr.mono (by decide)) hsB hfB bB pass0) (pe_fld (pv 0) rfl) (pe_fld (pv 1) rfl) (nomark _))))))))))))), ?_⟩
    rcases k with ⟨b, ⟨r1, r2, r3, r4, r5, r6, r7, r8⟩, u, rfl, ⟨dy, bb, eb, ob, hbb⟩, k⟩ | ⟨t, ty, hk, k⟩
    · refine ⟨_, rfl, _, _, .ref CS, .ref CS, true, rfl, .own CS, .base (.ins eb U.cl ZS.ha ZS.hn ZS.htk ZS.hm), kit_self, true, rfl, iteT ?_⟩
      refine ⟨_, rfl, a, CS, dx, _, _, rfl, ea, U.cl, U.n1, st1 .., _, rfl, b, CS, dy, _, _, rfl, eb, U.cl, U.n1, st1 .., rfl, _, rfl, ?_⟩
      by_cases z1 : s1 = r1
      case neg =>
        rw [show decide (V.str s1 = V.str r1) = false from decide_eq_false fun q => z1 (by injection q)]
        rw [show decide ((⟨s1, s2, s3, s4, s5, s6, s7, s8⟩ : S8) = (⟨r1, r2, r3, r4, r5, r6, r7, r8⟩ : S8) ∧ v = u) = false from decide_eq_false fun q => z1 (by have := q.1; injection this)] at k
        exact iteF k
      subst z1
      rw [show decide (V.str s1 = V.str s1) = true from decide_eq_true rfl]
      refine iteT ?_
      refine ⟨_, rfl, a, CS, dx, _, _, rfl, ea, U.cl, U.n2, st2 .., _, rfl, b, CS, dy, _, _, rfl, eb, U.cl, U.n2, st2 .., rfl, _, rfl, ?_⟩
      by_cases z2 : s2 = r2
      case neg =>
        rw [show decide (V.bl s2 = V.bl r2) = false from decide_eq_false fun q => z2 (by injection q)]
        rw [show decide ((⟨s1, s2, s3, s4, s5, s6, s7, s8⟩ : S8) = (⟨s1, r2, r3, r4, r5, r6, r7, r8⟩ : S8) ∧ v = u) = false from decide_eq_false fun q => z2 (by have := q.1; injection this)] at k
        exact iteF k
      subst z2
      rw [show decide (V.bl s2 = V.bl s2) = true from decide_eq_true rfl]
      refine iteT ?_
      refine ⟨_, rfl, a, CS, dx, _, _, rfl, ea, U.cl, U.n3, st3 .., _, rfl, b, CS, dy, _, _, rfl, eb, U.cl, U.n3, st3 .., rfl, _, rfl, ?_⟩
      by_cases z3 : s3 = r3
      case neg =>
        rw [show decide (V.int s3 = V.int r3) = false from decide_eq_false fun q => z3 (by injection q)]
        rw [show decide ((⟨s1, s2, s3, s4, s5, s6, s7, s8⟩ : S8) = (⟨s1, s2, r3, r4, r5, r6, r7, r8⟩ : S8) ∧ v = u) = false from decide_eq_false fun q => z3 (by have := q.1; injection this)] at k
        exact iteF k
      subst z3
      rw [show decide (V.int s3 = V.int s3) = true from decide_eq_true rfl]
      refine iteT ?_
      refine ⟨_, rfl, a, CS, dx, _, _, rfl, ea, U.cl, U.n4, st4 .., _, rfl, b, CS, dy, _, _, rfl, eb, U.cl, U.n4, st4 .., rfl, _, rfl, ?_⟩
      by_cases z4 : s4 = r4
      case neg =>
        rw [show decide (V.bl s4 = V.bl r4) = false from decide_eq_false fun q => z4 (by injection q)]
        rw [show decide ((⟨s1, s2, s3, s4, s5, s6, s7, s8⟩ : S8) = (⟨s1, s2, s3, r4, r5, r6, r7, r8⟩ : S8) ∧ v = u) = false from decide_eq_false fun q => z4 (by have := q.1; injection this)] at k
        exact iteF k
      subst z4
      rw [show decide (V.bl s4 = V.bl s4) = true from decide_eq_true rfl]
      refine iteT ?_
      refine ⟨_, rfl, a, CS, dx, _, _, rfl, ea, U.cl, U.n5, st5 .., _, rfl, b, CS, dy, _, _, rfl, eb, U.cl, U.n5, st5 .., rfl, _, rfl, ?_⟩
      by_cases z5 : s5 = r5
      case neg =>
        rw [show decide (V.bl s5 = V.bl r5) = false from decide_eq_false fun q => z5 (by injection q)]
        rw [show decide ((⟨s1, s2, s3, s4, s5, s6, s7, s8⟩ : S8) = (⟨s1, s2, s3, s4, r5, r6, r7, r8⟩ : S8) ∧ v = u) = false from decide_eq_false fun q => z5 (by have := q.1; injection this)] at k
        exact iteF k
      subst z5
      rw [show decide (V.bl s5 = V.bl s5) = true from decide_eq_true rfl]
      refine iteT ?_
      refine ⟨_, rfl, a, CS, dx, _, _, rfl, ea, U.cl, U.n6, st6 .., _, rfl, b, CS, dy, _, _, rfl, eb, U.cl, U.n6, st6 .., rfl, _, rfl, ?_⟩
      by_cases z6 : s6 = r6
      case neg =>
        rw [show decide (V.str s6 = V.str r6) = false from decide_eq_false fun q => z6 (by injection q)]
        rw [show decide ((⟨s1, s2, s3, s4, s5, s6, s7, s8⟩ : S8) = (⟨s1, s2, s3, s4, s5, r6, r7, r8⟩ : S8) ∧ v = u) = false from decide_eq_false fun q => z6 (by have := q.1; injection this)] at k
        exact iteF k
      subst z6
      rw [show decide (V.str s6 = V.str s6) = true from decide_eq_true rfl]
      refine iteT ?_
      refine ⟨_, rfl, a, CS, dx, _, _, rfl, ea, U.cl, U.n7, st7 .., _, rfl, b, CS, dy, _, _, rfl, eb, U.cl, U.n7, st7 .., rfl, _, rfl, ?_⟩
      by_cases z7 : s7 = r7
      case neg =>
        rw [show decide (V.int s7 = V.int r7) = false from decide_eq_false fun q => z7 (by injection q)]
        rw [show decide ((⟨s1, s2, s3, s4, s5, s6, s7, s8⟩ : S8) = (⟨s1, s2, s3, s4, s5, s6, r7, r8⟩ : S8) ∧ v = u) = false from decide_eq_false fun q => z7 (by have := q.1; injection this)] at k
        exact iteF k
      subst z7
      rw [show decide (V.int s7 = V.int s7) = true from decide_eq_true rfl]
      refine iteT ?_
      refine ⟨_, rfl, a, CS, dx, _, _, rfl, ea, U.cl, U.n8, st8 .., _, rfl, b, CS, dy, _, _, rfl, eb, U.cl, U.n8, st8 .., rfl, _, rfl, ?_⟩
      by_cases z8 : s8 = r8
      case neg =>
        rw [show decide (V.int s8 = V.int r8) = false from decide_eq_false fun q => z8 (by injection q)]
        rw [show decide ((⟨s1, s2, s3, s4, s5, s6, s7, s8⟩ : S8) = (⟨s1, s2, s3, s4, s5, s6, s7, r8⟩ : S8) ∧ v = u) = false from decide_eq_false fun q => z8 (by have := q.1; injection this)] at k
        exact iteF k
      subst z8
      rw [show decide (V.int s8 = V.int s8) = true from decide_eq_true rfl]
      refine iteT ?_
      rw [show decide ((⟨s1, s2, s3, s4, s5, s6, s7, s8⟩ : S8) = (⟨s1, s2, s3, s4, s5, s6, s7, s8⟩ : S8) ∧ v = u) = decide (v = u) from decide_eq_decide.mpr ⟨fun q => q.2, fun q => ⟨rfl, q⟩⟩] at k
      obtain ⟨db, _, _, _, _, _, ebb, _⟩ := id hbb
      obtain ⟨da, _, _, _, _, _, eba, _⟩ := id hba
      exact ⟨_, rfl, a, CS, dx, _, _, rfl, ea, U.cl, U.n9, st9 .., _, rfl, b, CS, dy, _, _, rfl, eb, U.cl, U.n9, st9 .., ba, da, _, .ref CB, rfl, eba, .base (.ins ebb T.cl Z.ha Z.hn Z.htk Z.hm), nfB, ba, v, .ref bb, rfl, hba, .inl ⟨bb, u, rfl, hbb, _, rfl, k⟩⟩
    · exact ⟨_, rfl, _, _, t, .ref CS, false, rfl, .own CS, ty, hk, false, rfl, iteF k⟩
end
end Sc
/-! The bag of two cells from which the laws over settings and machines draw. -/
namespace Sc
open PySem L2
/-- for i, x in enumerate(xs) -/
theorem for_enum {K : PySem.W.Frag} {a : Addr} {xs : List V} {g : TG} {tb : TS} {D : Ends} {σ : St} {H : Hp} (Pv : Nat → St → Hp → Prop) (h0 : Pv 0 σ H) (hl : ∀ i σ H, i ≤ xs.length → Pv i σ H → SqL K H a xs)
    (hs : ∀ i x σ H T, xs[i]? = some x → Pv i σ H → H T = none → g (.ref T) σ (upd H T (.tup [.int (i : Nat), x])) fun σ2 H2 => tb { D with nx := Pv (i + 1), ct := Pv (i + 1), bk := D.nx } σ2 H2) (hd : ∀ σ H, Pv xs.length σ H → D.nx σ H) :
    ∃ W : Nat → Nat → St → Hp → Prop, (∃ m, W 0 m σ H) ∧ ∀ i m σ H, W i m σ H →
      ((Ite K a).stop i H ∧ D.nx σ H) ∨ ((Ite K a).go i H ∧ ∃ N : St → Hp → Prop, (∀ σ' H', N σ' H' → ∃ m', m' < m ∧ W (i + 1) m' σ' H') ∧ ∀ x H', (Ite K a).yld i H x H' → g x σ H' fun σ2 H2 => tb { D with nx := N, ct := N, bk := D.nx } σ2 H2) := by
  refine ⟨fun i m σ' H' => i + m = xs.length ∧ Pv i σ' H', ⟨xs.length, Nat.zero_add _, h0⟩, fun i m σ' H' w => ?_⟩
  have sq := hl i σ' H' (by omega) w.2
  cases m with
  | zero =>
    have e : i = xs.length := w.1
    subst e
    exact .inl ⟨⟨xs, sq, Nat.le_refl _⟩, hd _ _ w.2⟩
  | succ m =>
    have lt : i < xs.length := by omega
    have ex : xs[i]? = some xs[i] := List.getElem?_eq_getElem lt
    refine .inr ⟨⟨xs, xs[i], sq, ex⟩, Pv (i + 1), fun σ2 H2 z => ⟨m, Nat.lt_succ_self m, by omega, z⟩, ?_⟩
    rintro v H2 ⟨T, x, rfl, nT, rfl, hx⟩
    exact hs i x σ' H' T (hx xs sq) w.2 nT
def Off (b : Addr) (H H' : Hp) : Prop := ∀ c, c ≠ b → H' c = H c
def BagS (H : Hp) (b : Addr) : Prop := ∃ l x : Int, H b = some (.lst [.int l, .int x]) ∧ 0 ≤ l ∧ 0 ≤ x ∧ x < 2147483648
def spTake2 : Sp := fun vs H Q _ => ∃ (b : Addr) (m : Int), vs = [.ref b, .int m] ∧ 1 ≤ m ∧ m < 1073741824 ∧ BagS H b ∧ ∀ (r : Int) (H' : Hp), 0 ≤ r → r < m → BagS H' b → Off b H H' → Q (.int r) H'
def spBag2 (K : PySem.W.Frag) : Sp := fun vs H Q _ => ∃ (a : Addr) (ns : List Int) (i : Int), vs = [.ref a, .int i] ∧ SqL K H a (ns.map V.int) ∧ ns.length ≤ 63 ∧ 0 ≤ i ∧ i ≤ 63 ∧ ∀ (p : Addr) (H' : Hp), H p = none → Same H H' → BagS H' p → Q (.ref p) H'
theorem fmod_in {a m : Int} (h : 1 ≤ m) : 0 ≤ a.fmod m ∧ a.fmod m < m := by
  rw [Int.fmod_eq_emod_of_nonneg a (by omega)]
  exact ⟨Int.emod_nonneg _ (by omega), Int.emod_lt_of_pos _ (by omega)⟩
theorem fdiv_in {a m : Int} (h : 1 ≤ m) (ha : 0 ≤ a) : 0 ≤ a.fdiv m := by
  rw [Int.fdiv_eq_ediv_of_nonneg a (by omega)]
  exact Int.ediv_nonneg ha (by omega)
section
variable {P : Program} {w : World} {K : PySem.W.Frag} {mg : Str → Option Value} {base : Heap}
theorem scTake2 : FnScope ["_law_bag_here", "_law_many", "_law_digit"] ["_law_bag_here", "_law_many"] (defScope s__law_take) := ⟨rfl, rfl, rfl, by decide +kernel, rfl, by decide +kernel, by decide +kernel⟩
theorem ok_take2 {f : Addr} {fd : FuncData} (F : Fun K "_law_take" "_law_take" s__law_take f fd) : FnOk P w K mg base CX0 1 f fd ["_law_bag_here", "_law_many"] spTake2 := by
  refine F.ok scTake2 (fun vs H Q E h => ?_) (fun cdv A outer s H vs Q E hr h => ?_)
  · obtain ⟨b, m, rfl, _⟩ := h
    rfl
  · obtain ⟨b, m, rfl, m1, m2, ⟨l, x, hb, l0, x0, x1⟩, k⟩ := h
    refine ⟨_, pss_cons (ps_if (pt_cmpR op_gt (pe_ix ix_list (pv 0) pe_int (fun _ _ => rfl)) pe_int (nomark _))
        (pss_cons (ps_set (i := 2) scTake2.nd rfl (Or.inl rfl) (pe_op op_modN (pe_ix ix_list (pv 0) pe_int (fun _ _ => rfl)) (pv 1)))
        (pss_cons (ps_asg (pe_op op_fdivN (pe_ix ix_list (pv 0) pe_int (fun _ _ => rfl)) (pv 1)) (pg_sub (pv 0) pe_int set_list))
        (pss_one (ps_ret (pv 2))))) pss_nil)
      (pss_cons (ps_asg (pe_op op_mod (pe_op op_add (pe_op op_mul (pe_ix ix_list (pv 0) pe_int (fun _ _ => rfl)) pe_int) pe_int) pe_int) (pg_sub (pv 0) pe_int set_list))
      (pss_one (ps_ret (pe_op op_modN (pe_op op_fdiv (pe_op op_mod (pe_op op_mul (pe_op op_fdiv (pe_ix ix_list (pv 0) pe_int (fun _ _ => rfl)) pe_int) pe_int) pe_int) pe_int) (pv 1))))), ?_⟩
    refine ⟨_, rfl, b, _, _, _, rfl, rfl, SqL.of hb, rfl, _, _, rfl, rfl, _, rfl, ?_⟩
    refine ite2 (fun hl => ?_) (fun hl => ?_)
    · have hl' : 0 < l := of_decide_eq_true hl
      refine ⟨_, rfl, b, _, _, _, rfl, rfl, SqL.of hb, rfl, _, rfl, _, _, rfl, rfl, by omega, ?_⟩
      refine ⟨_, rfl, b, _, _, _, rfl, rfl, SqL.of hb, rfl, _, rfl, _, _, rfl, rfl, ⟨by omega, by omega⟩, _, rfl, b, _, _, 0, rfl, rfl, hb, rfl, ?_⟩
      refine ⟨_, rfl, k _ _ (fmod_in m1).1 (fmod_in m1).2 ⟨_, x, upd_same, fdiv_in m1 l0, x0, x1⟩ fun d hd => upd_ne hd⟩
    · refine ⟨_, rfl, b, _, _, _, rfl, rfl, SqL.of hb, rfl, _, _, rfl, rfl, .inr ⟨by decide, by decide⟩, _, _, rfl, rfl, _, _, rfl, rfl, (by show (0 : Int) < 2147483399; decide), _, rfl, b, _, _, 1, rfl, rfl, hb, rfl, ?_⟩
      dsimp only [List.set]
      generalize hy : (x * 40692 + 3301) % 2147483399 = y
      have y0 : 0 ≤ y := by rw [← hy]; exact Int.emod_nonneg _ (by decide)
      have y1 : y < 2147483399 := by rw [← hy]; exact Int.emod_lt_of_pos _ (by decide)
      have hb2 : (upd H b (.lst [.int l, .int y])) b = some (.lst [.int l, .int y]) := upd_same
      refine ⟨_, rfl, b, _, _, _, rfl, rfl, SqL.of hb2, rfl, _, _, rfl, rfl, ⟨by decide, by decide⟩, _, _, rfl, rfl, .inr ⟨by decide, by decide⟩, _, _, rfl, rfl, (by show (0 : Int) < 2147483587; decide), _, _, rfl, rfl, ⟨by decide, by decide⟩, _, rfl, _, _, rfl, rfl, by omega, ?_⟩
      exact k _ _ (fmod_in m1).1 (fmod_in m1).2 ⟨l, y, hb2, l0, y0, by omega⟩ fun d hd => upd_ne hd
abbrev NBg : List Str := ["_law_script", "_law_at", "_law_cell", "_law_mixed", "_law_spot", "_law_each"]
theorem scBag2 : FnScope NBg ["_law_script", "_law_at"] (defScope s__law_bag) := ⟨rfl, rfl, rfl, by decide +kernel, rfl, by decide +kernel, by decide +kernel⟩
theorem ok_bag2 {f : Addr} {fd : FuncData} (F : Fun K "_law_bag" "_law_bag" s__law_bag f fd) (len : mg "len" = none) (abs : mg "abs" = none) (enum : mg "enumerate" = none) : FnOk P w K mg base CX0 1 f fd ["_law_script", "_law_at"] (spBag2 K) := by
  refine F.ok scBag2 (fun vs H Q E h => ?_) (fun cdv A outer s H vs Q E hr h => ?_)
  · obtain ⟨a, ns, i, rfl, _⟩ := h
    rfl
  · obtain ⟨a, ns, i, rfl, hS, hl, i0, i1, k⟩ := h
    refine ⟨_, C8.pss_cut (ps_set (i := 2) scBag2.nd rfl (Or.inl rfl) (pe_ifExp (pt_cmpR op_lt (pv 1) (pe_callB call_len_seq (by rfl) len PySem.boot_len (pa_cons (pv 0) pa_nil)) (nomark _)) (pe_ix ix_list (pv 0) (pv 1) (fun _ _ => rfl)) pe_int))
      (pss_cons (ps_set (i := 3) scBag2.nd rfl (Or.inl rfl) (pe_op op_add (pe_op op_mul pe_int (pv 1)) pe_int))
      (pss_cons (ps_for PassesOwn.never rfl (pi_enum (by rfl) enum (pa_cons (pe_slice (r := rSlL K) sl_list (pv 0) po_none (po_some pe_int)) pa_nil)) (pg_tup rfl (pgs_cons (pg_name (i := 4) scBag2.nd rfl (Or.inl rfl)) (pgs_cons (pg_name (i := 5) scBag2.nd rfl (Or.inl rfl)) pgs_nil)))
        (pss_one (ps_set (i := 3) scBag2.nd rfl (Or.inl rfl) (pe_op op_mod (pe_op op_add (pe_op op_add (pe_op op_add (pe_op op_mul (pv 3) pe_int) (pe_op op_mod (pv 5) pe_int)) (pe_op op_mul pe_int (pv 4))) pe_int) pe_int))))
      (pss_one (ps_ret (pe_lst (pa_cons (pe_ifExp (pt_cmpR op_ge (pe_callB call_abs (by rfl) abs (by decide +kernel) (pa_cons (pv 2) pa_nil)) (pe_op op_pow pe_int pe_int) (nomark _)) (pe_callB call_abs (by rfl) abs (by decide +kernel) (pa_cons (pv 2) pa_nil)) pe_int) (pa_cons (pv 3) pa_nil))))))), ?_⟩
    refine ⟨fun σ' H' => H' = H ∧ ∃ z : Int, σ' = [some (.ref a), some (.int i), some (.int z), none, none, none], ?_, fun σ' H' z => ?_⟩
    · refine ⟨_, rfl, _, rfl, a, _, rfl, .inl hS, _, _, rfl, rfl, _, rfl, ?_⟩
      refine ite2 (fun h1 => ?_) (fun h1 => ⟨rfl, 0, rfl⟩)
      have h2 : i < ((ns.map V.int).length : Int) := of_decide_eq_true h1
      rw [List.length_map] at h2
      have hn : i.toNat < ns.length := by omega
      refine ⟨_, rfl, _, rfl, a, _, _, .int ns[i.toNat], rfl, rfl, hS, ?_, ⟨rfl, _, rfl⟩⟩
      refine at_of (j := i.toNat) (by omega) ?_
      rw [List.getElem?_map, List.getElem?_eq_getElem hn] <;> rfl
    · obtain ⟨rfl, z, rfl⟩ := z
      refine ⟨_, rfl, _, _, rfl, rfl, .inl ⟨by decide, by decide⟩, _, _, rfl, rfl, ?_⟩
      dsimp only
      refine ⟨_, rfl, _, rfl, a, _, rfl, hS, fun q nq => ⟨q, _, rfl, SqL.of upd_same, ?_⟩⟩
      have sq := put_same (o := .lst (cutV (ns.map V.int) none (some 40))) nq
      have eq1 : (upd H' q (.lst (cutV (ns.map V.int) none (some 40)))) q = some (.lst (cutV (ns.map V.int) none (some 40))) := upd_same
      generalize upd H' q (.lst (cutV (ns.map V.int) none (some 40))) = Hq at sq eq1 ⊢
      have isInt : ∀ (j : Nat) (x : V), (cutV (ns.map V.int) none (some 40))[j]? = some x → ∃ n, x = .int n := fun j x hx => by
        have m1 := List.mem_of_getElem? hx
        unfold cutV at m1
        obtain ⟨n, _, rfl⟩ := List.mem_map.mp (List.mem_of_mem_drop (List.mem_of_mem_take m1))
        exact ⟨n, rfl⟩
      refine for_enum (K := K) (a := q) (xs := cutV (ns.map V.int) none (some 40)) (fun j σ H' => Same Hq H' ∧ ∃ (x : Int) (v4 v5 : Option V), 0 ≤ x ∧ x < 2147483648 ∧ σ = [some (.ref a), some (.int i), some (.int z), some (.int x), v4, v5]) ⟨Same.refl _, _, none, none, ?_, ?_, rfl⟩ (fun j σ H' _ p => SqL.of (p.1 _ _ eq1)) (fun j x σ H' T hx p nT => ?_) fun σ H' p => ?_
      · omega
      · omega
      · obtain ⟨s1, x0, v4, v5, x1, x2, rfl⟩ := p
        obtain ⟨n, rfl⟩ := isInt j x hx
        refine ⟨T, _, rfl, .inl (.inl upd_same), rfl, _, _, rfl, _, _, rfl, rfl, ?_⟩
        refine ⟨_, rfl, _, _, rfl, rfl, .inr ⟨by decide, by decide⟩, _, rfl, _, _, rfl, rfl, (by show (0 : Int) < 2147483563; decide), _, _, rfl, rfl, _, rfl, _, _, rfl, rfl, .inl ⟨by decide, by decide⟩, _, _, rfl, rfl, _, _, rfl, rfl, _, _, rfl, rfl, (by show (0 : Int) < 2147483563; decide), ?_⟩
        refine ⟨s1.trans (put_same nT), _, _, _, Int.emod_nonneg _ (by decide), Int.lt_trans (Int.emod_lt_of_pos _ (by decide)) (by decide), rfl⟩
      · obtain ⟨s1, x0, v4, v5, x1, x2, rfl⟩ := p
        have ha : ∀ z : Int, 0 ≤ (if z < 0 then -z else z) := fun z => by
          by_cases q : z < 0
          · rw [if_pos q]; omega
          · rw [if_neg q]; omega
        refine ⟨_, rfl, _, rfl, _, _, rfl, rfl, ⟨by decide, by decide, by decide⟩, _, _, rfl, rfl, _, rfl, ?_⟩
        refine ite2 (fun h3 => ?_) (fun h3 => ?_)
        · refine ⟨_, rfl, _, rfl, _, rfl, (by show 2 ≤ sizeLine; decide), fun p hp => ?_⟩
          exact k p _ ((sq.trans s1).free hp) ((sq.trans s1).trans (put_same hp)) ⟨_, _, upd_same, ha _, x1, x2⟩
        · refine ⟨_, rfl, (by show 2 ≤ sizeLine; decide), fun p hp => ?_⟩
          exact k p _ ((sq.trans s1).free hp) ((sq.trans s1).trans (put_same hp)) ⟨_, _, upd_same, Int.le_refl _, x1, x2⟩
end
end Sc
/-! A law's end where the run at the very top is wanted: nothing is under way above the law. -/
namespace Tp
open PySem PySem.Spec PyProof.Rows L2
section
variable {P : Program} {w : World} {K : PySem.W.Frag} {mg mb : Str → Option Value} {fa a : Addr} {s₁ : Shared} {vs : List Value} {ns : List Int} {H : Hp}
/-- where no entry of a dict is tracked -/
theorem env_top (KX : K.In s₁.heap) (hns : s₁.heap.Ns mainGlobals mg) (hb : s₁.heap.Ns builtinsNs mb) (hbb : ∀ x : Str, x ≠ "__name__" → mb x = bootBuiltins x) (hlim : s₁.heap.NoLimit) (hg : s₁.gens = #[])
    (ha : s₁.heap.get? a = some { cls := .type "list", data := .seq vs.toArray }) (hok : HOk P w H s₁.heap) (only : ∀ b, H b ≠ none → b = a) (hK : H a ≠ none → K.lookup a = none) :
    K.In (hidT s₁.heap H) ∧ (hidT s₁.heap H).Ns mainGlobals mg ∧ Env0 P w K mg (hidT s₁.heap H) callerA [] s₁ H := by
  have notA : ∀ {b : Addr}, b ≠ a → H b = none := fun {b} ne => by
    cases q : H b with
    | none => rfl
    | some u => exact absurd (only b (by rw [q]; exact fun z => nomatch z)) ne
  have dct : ∀ {b : Addr} {m : Str → Option Value}, s₁.heap.Ns b m → (hidT s₁.heap H).Ns b m := fun {b m} n => by
    obtain ⟨o, es, ep, e, d, r⟩ := n
    refine ⟨o, es, ep, hidT_get e (notA fun z => ?_), d, r⟩
    subst z
    rw [ha] at e
    cases e
    cases d
  have inK : K.In (hidT s₁.heap H) := fun b o e => hidT_get (KX b o e) (by
    by_cases z : b = a
    · subst z
      cases q : H b with
      | none => rfl
      | some u =>
        have := hK (by rw [q]; exact fun z => nomatch z)
        rw [this] at e
        cases e
    · exact notA z)
  obtain ⟨mc, l1, l2⟩ := hlim
  exact ⟨inK, dct hns, ⟨rfl, ⟨inK, dct hns, ⟨mb, dct hb, hbb⟩, ⟨mc, dct l1, l2⟩⟩, fun b o e => of_hidT e, Nat.le_of_eq (hidT_size _ _), trivial, fun b z => (by cases z), hok, .of_eq hg⟩⟩
/-- the answer True -/
theorem end_top (only : Only H) (hok : HOk P w H s₁.heap) {r : Result} {s' : Shared} (h : CR C8.CX0 [] P w H s₁ (fun v _ => v = .bl true) (fun _ _ _ => False) r s') :
    r = .ok (.ret (.bool true)) ∧ OldK s₁.heap s'.heap ∧ s'.os = s₁.os ∧ AllBare s'.gens := by
  cases r with
  | error e => exact (show False from h).elim
  | ok fl =>
    cases fl with
    | ret u =>
      obtain ⟨v, H', h1, h2, un, hok', rv, hv⟩ := h
      have hv : v = .bl true := hv
      subst hv
      cases rv
      refine ⟨rfl, OldK.of_keep fun b o e => ?_, h1, h2⟩
      rcases only b with q | ⟨ob, xs, q⟩
      · exact un.keep b o e q (fun z => by cases z) (fun z => by cases z)
      · obtain ⟨g1, _⟩ := hok b _ q
        obtain ⟨g2, _⟩ := hok' b _ (un.frzs b ob _ q)
        rw [e] at g1
        cases g1
        exact g2
    | next => exact (show False from h).elim
    | brk => exact (show False from h).elim
    | cont => exact (show False from h).elim
/-- the run of the law's def at the top, its answer True -/
def TopOk (P : Program) (w : World) (K : PySem.W.Frag) (mg : Str → Option Value) (fa : Addr) (n : Nat) : Prop :=
  ∀ (base : Heap) (s : Shared) (H : Hp) (a : Addr) (ns : List Int), ns.length ≤ n → K.In base → base.Ns mainGlobals mg → Env0 P w K mg base callerA [] s H → SqL K H a (ns.map V.int) →
    codeAny (model P w) callerA (.call (.ref fa) ⟨[.ref a], []⟩) (CR C8.CX0 [] P w H s (fun v _ => v = .bl true) fun _ _ _ => False) s
theorem top_call {n : Nat} (KX : K.In s₁.heap) (hns : s₁.heap.Ns mainGlobals mg) (hb : s₁.heap.Ns builtinsNs mb) (hbb : ∀ x : Str, x ≠ "__name__" → mb x = bootBuiltins x) (hlim : s₁.heap.NoLimit) (hg : s₁.gens = #[])
    (ha : s₁.heap.get? a = some { cls := .type "list", data := .seq vs.toArray }) (hi : IntsAre vs ns) (hl : ns.length ≤ n) (hn : n ≤ sizeLine) (F : TopOk P w K mg fa n) :
    codeAny (model P w) callerA (.call (.ref fa) ⟨[.ref a], []⟩) (fun r s' => r = .ok (.ret (.bool true)) ∧ OldK s₁.heap s'.heap ∧ s'.os = s₁.os ∧ AllBare s'.gens) s₁ := by
  have rv := vals_ints hi
  have sz : vs.length ≤ sizeLine := by rw [hi.length]; omega
  cases hk : K.lookup a with
  | some o =>
    have e := KX a o hk
    rw [ha] at e
    cases e
    have ok0 : HOk P w (fun _ => none) s₁.heap := fun b u z => nomatch (show (none : Option HO) = some u from z)
    obtain ⟨e1, e2, e3⟩ := env_top KX hns hb hbb hlim hg ha ok0 (fun b z => absurd rfl z) (fun z => absurd rfl z)
    refine codeAny_mono (F _ s₁ _ a ns hl e1 e2 e3 (.inr ⟨_, vs.toArray, _, hk, rfl, rfl, rfl, by rw [List.size_toArray]; exact sz, by simpa using rv⟩)) fun r s' h => end_top (fun _ => .inl rfl) ok0 h
  | none =>
    generalize hH : (fun b : Addr => if b = a then some (HO.frz { cls := .type "list", data := .seq vs.toArray } (.lst (ns.map V.int))) else none) = Hf
    have at_ : Hf a = some (.frz { cls := .type "list", data := .seq vs.toArray } (.lst (ns.map V.int))) := by rw [← hH]; exact if_pos rfl
    have off : ∀ b, b ≠ a → Hf b = none := fun b ne => by rw [← hH]; exact if_neg ne
    have ok1 : HOk P w Hf s₁.heap := fun b u z => by
      by_cases q : b = a
      · subst q
        rw [at_] at z
        cases z
        exact ⟨ha, by rw [List.length_map]; omega, vs, _, rv, ha⟩
      · rw [off b q] at z
        cases z
    obtain ⟨e1, e2, e3⟩ := env_top KX hns hb hbb hlim hg ha ok1 (fun b z => Classical.byContradiction fun q => z (off b q)) (fun _ => hk)
    refine codeAny_mono (F _ s₁ _ a ns hl e1 e2 e3 (.inl (.inr ⟨_, at_⟩))) fun r s' h => end_top (fun b => ?_) ok1 h
    by_cases q : b = a
    · subst q
      exact .inr ⟨_, _, at_⟩
    · exact .inl (off b q)
end
theorem walk_top {l : PySem.W.OpenLaw} {n : Nat} {q : Program} {loose : List Str} {XP : (Str → Option Value) → Heap → Prop} {YP : World → Heap → Prop} {d : DefRec} {K : Params → PySem.W.Frag}
    (hn : l.most = some n) (hn2 : n ≤ sizeLine) (hdf : d.params.defaults = []) (hY : ∀ (w : World) (h : Heap), YP w h → (K w.params).In h)
    (F : ∀ (w : World) (mg : Str → Option Value) (fa : Addr) (h : Heap), (K w.params).In h → h.Ns mainGlobals mg → mg d.name = some (.ref fa) → TopOk l.prog w (K w.params) mg fa n) :
    PySem.W.WalkO q loose XP YP l.row.toRowW d [] (fun f vs => PySem.call f vs) := by
  refine Att.attach_call hn hdf fun w s₀ s₁ mg mb fa o pm cd doc a vs ns G Y ho hd hcd hmg hobj hints hlen hg => ?_
  exact top_call (hY w _ Y) G.T.g G.T.b G.T.builtins G.T.nolimit hg hobj hints hlen hn2 (F w mg fa _ (hY w _ Y) G.T.g hmg)
end Tp
/-! Defs that are called where nothing guards a repr, and repr of laid data in them. -/
namespace Gu
open PySem PySem.Spec PyProof.Rows L2
/-- a def's contract where no repr is under way -/
structure FnG (P : Program) (w : World) (K : PySem.W.Frag) (mg : Str → Option Value) (base : Heap) (CX : CXT) (k : Nat) (f : Addr) (fd : FuncData) (ps : List Str) (sp : Sp) : Prop where
  len : ∀ vs H Q E, sp vs H Q E → vs.length = ps.length
  run : ∀ (A : Around) (outer : List Env) (s : Shared) (H : Hp) (args : Args) (us : List Value) (vs : List V) (Q : VK) (E : XK), A.guards = some [] → Room k A → Env0 P w K mg base A outer s H → BindsTo s fd args (ps.zip us) → Vals vs us → sp vs H Q E →
    codeAny (model P w) A (.call (.ref f) args) (CR CX outer P w H s Q E) s
section
variable {P : Program} {w : World} {K : PySem.W.Frag} {mg : Str → Option Value} {base : Heap} {x qual : Str} {st : Stmt} {f : Addr} {fd : FuncData}
theorem ok_g {CX : CXT} {N ps : List Str} {k : Nat} {sp : Sp} (F : Fun K x qual st f fd) (S : FnScope N ps (defScope st)) (len : ∀ vs H Q E, sp vs H Q E → vs.length = ps.length)
    (hbody : ∀ (cdv : Value) (A : Around) (outer : List Env) (s : Shared) (H : Hp) (vs : List V) (Q : VK) (E : XK), A.guards = some [] → Room k (A.deeper (envOfC qual (defScope st) s.heap.objs.size f cdv)) → sp vs H Q E →
      ∃ t, PSs (cxOf CX P w K mg base N qual (defScope st) f cdv A outer s H E) (defBody st) t ∧ t { nx := fun _ H' => Q .non H', rt := Q } (start N vs) H) : FnG P w K mg base CX (k + 1) f fd ps sp := by
  obtain ⟨oc, od, kV, doc, pm, an, cdv, ct, osl, rfl, lk, hcd⟩ := F.ex
  exact ⟨len, fun A outer s H args us vs Q E hg hr e0 hb r hsp => LamX.run_ofS lk hcd S hr e0 hb r (len _ _ _ _ hsp) fun hr' => hbody cdv A outer s H vs Q E hg hr' hsp⟩
end
section
variable {X : Cx} {CX : CXT} {k : Nat} {f : Addr} {fd : FuncData} {ps : List Str} {sp : Sp} {E : XK} {x : Str} {p pos : Pos} {e : Expr} {es : List Expr} {t : TA}
/-- f(e, ..) of such a def -/
theorem pe_callG (F : FnG X.prog X.w X.K X.mg X.base CX k f fd ps sp) (hG : X.A.guards = some []) (hr : Room k X.A) (hg : Gl X x) (hm : X.mg x = some (.ref f)) (hk : PySem.W.keepIn X.K (.ref f) = true) (hb : Binds X.K fd ps []) (hx : Passes CX X E)
    (ha : PA X (e :: es) t) (hdb : (x == ("__debug__" : Str)) = false := by decide) (he : starEach (e :: es) X.env = (false, eval e X.env) :: starEach es X.env := by rfl) (hpl : (backTo pos (starEach es X.env)).any (·.1) = false := by rfl) :
    PE X (.Call (.Name x p) (e :: es) [] pos) (tCall sp [] E t) := by
  constructor
  intro pins s σ H Q I h
  apply wpAny_Call_Name_kw (ld_glob I hg hm ?_ hdb)
  refine PySem.W.callWith_K (h₀ := X.base) I.ok.mod.kin hk (thn (ha.run pos pins s σ H _ I h) fun us s1 q0 => ?_) he hpl
  obtain ⟨vs, H1, I1, r, q⟩ := q0
  rw [List.append_nil] at q
  have hl : us.length = ps.length := by rw [← r.length]; exact F.len _ _ _ _ q
  have bd : BindsTo s1 fd ⟨us, []⟩ (ps.zip us) := by simpa using hb s1 us I1.kIn (by simpa using hl)
  refine ⟨I1.kIn, wpAny_call (codeAny_mono (F.run X.A X.stack s1 H1 ⟨us, []⟩ us vs Q E hG hr I1.env0 bd r q) fun z s' hq => ?_)⟩
  match z, hq with
  | .error e, hq => exact hx pins σ H1 s1 e s' I1 hq
  | .ok (.ret u), hq => exact I1.after hq
  | .ok .next, hq => exact False.elim hq
  | .ok .brk, hq => exact False.elim hq
  | .ok .cont, hq => exact False.elim hq
end
section
variable {X : Cx}
/-- what repr asks of such data -/
def Shows (d : PyData) : Prop := PyData.layable0 d = true ∧ d.showable = true ∧ d.intsShort 13 = true
def rReprD (K : PySem.W.Frag) : List V → Hp → VK → Prop := fun xs H Q => ∃ a d, xs = [.ref a] ∧ Dp K H (.ref a) d ∧ Shows d ∧ Q (.str d.shown) H
theorem call_reprD (hG : X.A.guards = some []) (hr : X.A.units + 65 < cLine) : CallR X (.builtin "repr") (rReprD X.K) := by
  rintro pins s σ H xs us Q I r ⟨a, d, rfl, hd, ⟨h1, h2, h3⟩, q⟩
  obtain ⟨u, rfl, ru⟩ := vals1 r
  obtain rfl : u = Value.ref a := ru
  obtain ⟨as, rd⟩ := Dp.reads I d (.ref a) (.ref a) hd rfl
  refine repr_of_reads' rd h2 (PyData.noDict_hsm (PyData.hasDict_of_layable h1)) hG (room_of_layable h1 hr) (fun _ _ e => e) (fun h' u tk hk => ?_) (Nat.le_trans (shown_le13 h1 h3) (by decide))
  exact ⟨.str d.shown, H, I.kept hk, ⟨_, rfl⟩, q⟩
def rReprB : List V → Hp → VK → Prop := fun xs H Q => ∃ b, xs = [.bl b] ∧ Q (.str (if b then "True" else "False")) H
theorem call_reprB : CallR X (.builtin "repr") rReprB := by
  rintro pins s σ H xs us Q I r ⟨b, rfl, q⟩
  obtain ⟨u, rfl, ru⟩ := vals1 r
  obtain rfl : u = Value.bool b := ru
  exact P.repr_of_bool ⟨.str (if b then "True" else "False"), H, I.tok _, ⟨_, by cases b <;> rfl⟩, q⟩
end
end Gu
/-! Settings as data: what == and repr ask of them. -/
namespace Sc
open PySem L2
structure ItemOk (d : PyData) : Prop where
  lay : PyData.canLay0 d = true
  dep : PyData.depth d ≤ 4
  wt : PyData.weight d ≤ 1000
  sh : d.showable = true
  sho : d.intsShort 13 = true
theorem all_ok : ∀ ds : List PyData, (∀ d ∈ ds, ItemOk d) → PyData.canLayAll0 ds = true ∧ PyData.depthAll ds ≤ 4 ∧ PyData.weightAll ds ≤ 1001 * ds.length ∧ PyData.showableAll ds = true ∧ PyData.intsShortAll 13 ds = true
  | [], _ => ⟨rfl, by rw [PyData.depthAll]; omega, by rw [PyData.weightAll]; omega, rfl, rfl⟩
  | d :: ds, h => by
    obtain ⟨h1, h2, h3, h4, h5⟩ := all_ok ds fun x hx => h x (List.mem_cons_of_mem _ hx)
    have i := h d (List.mem_cons_self ..)
    have e3 := i.wt
    have e2 := i.dep
    refine ⟨?_, ?_, ?_, ?_, ?_⟩
    · rw [PyData.canLayAll0, h1, i.lay]
      rfl
    · rw [PyData.depthAll]
      omega
    · rw [PyData.weightAll, List.length_cons]
      omega
    · rw [PyData.showableAll, h4, i.sh]
      rfl
    · rw [PyData.intsShortAll, h5, i.sho]
      rfl
theorem list_ok {ds : List PyData} (h : ∀ d ∈ ds, ItemOk d) (hl : ds.length ≤ 20) : Gu.Shows (.list ds) ∧ SeqAt.shaped (.list ds) = true := by
  obtain ⟨h1, h2, h3, h4, h5⟩ := all_ok ds h
  have d5 : PyData.depth (.list ds) ≤ 5 := by
    rw [PyData.depth]
    omega
  have w : PyData.weight (.list ds) ≤ 2 ^ 20 := by
    rw [PyData.weight]
    omega
  refine ⟨⟨?_, ?_, ?_⟩, ?_⟩
  · unfold PyData.layable0
    rw [PyData.canLay0, h1, decide_eq_true (show PyData.depth (.list ds) ≤ 64 by omega), decide_eq_true w]
    rfl
  · rw [PyData.showable, h4]
  · rw [PyData.intsShort, h5]
  · unfold SeqAt.shaped
    rw [PyData.canLay0, h1, Bool.true_and]
    exact decide_eq_true (by omega)
theorem int_ok : ∀ n : Nat, n < 64 → PyData.canLay0 (.int n) = true ∧ PyData.depth (.int n) ≤ 4 ∧ PyData.weight (.int n) ≤ 1000 ∧ (PyData.int n).showable = true ∧ (PyData.int n).intsShort 13 = true := by decide +kernel
theorem io_int {i : Int} (h0 : 0 ≤ i) (h1 : i < 64) : ItemOk (.int i) := by
  obtain ⟨n, rfl⟩ := Int.eq_ofNat_of_zero_le h0
  obtain ⟨a, b, c, d, e⟩ := int_ok n (by omega)
  exact ⟨a, b, c, d, e⟩
theorem io_bl (b : Bool) : ItemOk (.bool b) := ⟨rfl, by rw [PyData.depth]; omega, by rw [PyData.weight]; omega, rfl, rfl⟩
theorem io_w (m : Nat) : ItemOk (dW m) := by
  unfold dW ways
  split <;> split <;> split <;> exact ⟨by decide +kernel, by decide +kernel, by decide +kernel, by decide +kernel, by decide +kernel⟩
theorem cp_cases {x : Str} (h : inV (.str x) cpV = true) : x = "none" ∨ x = "ends" ∨ x = "all" := by
  simp [inV, eqV] at h
  rcases h with h | h | h
  · exact .inl h.symm
  · exact .inr (.inl h.symm)
  · exact .inr (.inr h.symm)
theorem pl_cases {x : Str} (h : inV (.str x) plV = true) : x = "first" ∨ x = "best" ∨ x = "worst" ∨ x = "next" ∨ x = "halves" := by
  simp [inV, eqV] at h
  rcases h with h | h | h | h | h
  · exact .inl h.symm
  · exact .inr (.inl h.symm)
  · exact .inr (.inr (.inl h.symm))
  · exact .inr (.inr (.inr (.inl h.symm)))
  · exact .inr (.inr (.inr (.inr h.symm)))
theorem io_cp {x : Str} (h : inV (.str x) cpV = true) : ItemOk (.str x) := by
  rcases cp_cases h with rfl | rfl | rfl <;> exact ⟨by decide +kernel, by decide +kernel, by decide +kernel, by decide +kernel, by decide +kernel⟩
theorem io_pl {x : Str} (h : inV (.str x) plV = true) : ItemOk (.str x) := by
  rcases pl_cases h with rfl | rfl | rfl | rfl | rfl <;> exact ⟨by decide +kernel, by decide +kernel, by decide +kernel, by decide +kernel, by decide +kernel⟩
abbrev ds8 (s : S8) : List PyData := [.str s.copies, .bool s.cached, .int s.batch, .bool s.early, .bool s.drain, .str s.policy, .int s.groups, .int s.tables]
abbrev ds5 (v : B5) : List PyData := [dW v.1, dW v.2.1, dW v.2.2.1, dW v.2.2.2.1, dW v.2.2.2.2]
theorem ok_ds8 {s : S8} (h : s.Ok) : ∀ d ∈ ds8 s, ItemOk d := by
  have i1 := io_cp h.c
  have i2 := io_pl h.p
  have i3 := io_int h.b0 (Int.lt_of_le_of_lt h.b1 (by decide))
  have i4 := io_int (Int.le_trans (by decide) h.g0) (Int.lt_of_le_of_lt h.g1 (by decide))
  have i5 := io_int (Int.le_trans (by decide) h.t0) (Int.lt_of_le_of_lt h.t1 (by decide))
  intro d hd
  simp only [List.mem_cons, List.not_mem_nil, or_false] at hd
  rcases hd with rfl | rfl | rfl | rfl | rfl | rfl | rfl | rfl
  · exact i1
  · exact io_bl _
  · exact i3
  · exact io_bl _
  · exact io_bl _
  · exact i2
  · exact i4
  · exact i5
theorem ok_ds5 (v : B5) : ∀ d ∈ ds5 v, ItemOk d := by
  intro d hd
  simp only [List.mem_cons, List.not_mem_nil, or_false] at hd
  rcases hd with rfl | rfl | rfl | rfl | rfl <;> exact io_w _
theorem io_d5 (v : B5) : ItemOk (.list (ds5 v)) := by
  refine ⟨?_, ?_, ?_, ?_, ?_⟩
  · rw [PyData.canLay0, PyData.canLayAll0, PyData.canLayAll0, PyData.canLayAll0, PyData.canLayAll0, PyData.canLayAll0, PyData.canLayAll0, lay_w, lay_w, lay_w, lay_w, lay_w]
    all_goals rfl
  · rw [PyData.depth, PyData.depthAll, PyData.depthAll, PyData.depthAll, PyData.depthAll, PyData.depthAll, PyData.depthAll, depth_w, depth_w, depth_w, depth_w, depth_w]
    all_goals decide
  · have h1 : ∀ m, PyData.weight (dW m) ≤ 100 := fun m => by
      unfold dW ways
      split <;> split <;> split <;> decide +kernel
    have a := h1 v.1
    have b := h1 v.2.1
    have c := h1 v.2.2.1
    have d := h1 v.2.2.2.1
    have e := h1 v.2.2.2.2
    rw [PyData.weight, PyData.weightAll, PyData.weightAll, PyData.weightAll, PyData.weightAll, PyData.weightAll, PyData.weightAll]
    omega
  · rw [PyData.showable, PyData.showableAll, PyData.showableAll, PyData.showableAll, PyData.showableAll, PyData.showableAll, PyData.showableAll, (io_w _).sh, (io_w _).sh, (io_w _).sh, (io_w _).sh, (io_w _).sh]
    all_goals rfl
  · rw [PyData.intsShort, PyData.intsShortAll, PyData.intsShortAll, PyData.intsShortAll, PyData.intsShortAll, PyData.intsShortAll, PyData.intsShortAll, (io_w _).sho, (io_w _).sho, (io_w _).sho, (io_w _).sho, (io_w _).sho]
    all_goals rfl
theorem eqv5 {v u : B5} (hv : ok5 v) (hu : ok5 u) : PyData.eqv (.list (ds5 v)) (.list (ds5 u)) = decide (v = u) := by
  obtain ⟨v1, v2, v3, v4, v5⟩ := v
  obtain ⟨u1, u2, u3, u4, u5⟩ := u
  obtain ⟨a1, a2, a3, a4, a5⟩ := hv
  obtain ⟨b1, b2, b3, b4, b5⟩ := hu
  rw [PyData.eqv, PyData.eqvAll, PyData.eqvAll, PyData.eqvAll, PyData.eqvAll, PyData.eqvAll, PyData.eqvAll, eqv_w a1 b1, eqv_w a2 b2, eqv_w a3 b3, eqv_w a4 b4, eqv_w a5 b5, Bool.eq_iff_iff]
  simp
theorem eqv9 {s r : S8} {v u : B5} (hv : ok5 v) (hu : ok5 u) : PyData.eqv (.list (ds8 s ++ [.list (ds5 v)])) (.list (ds8 r ++ [.list (ds5 u)])) = decide (s = r ∧ v = u) := by
  obtain ⟨s1, s2, s3, s4, s5, s6, s7, s8⟩ := s
  obtain ⟨r1, r2, r3, r4, r5, r6, r7, r8⟩ := r
  have e := eqv5 hv hu
  simp only [ds8, List.cons_append, List.nil_append, PyData.eqv, PyData.eqvAll] at e ⊢
  rw [e, Bool.eq_iff_iff]
  simp [and_assoc]
end Sc
namespace Sc
open PySem L2
/-! ### what the law draws -/
structure TB (mg : Str → Option Value) : Prop where
  len : mg "len" = none
  abs : mg "abs" = none
  enum : mg "enumerate" = none
  range : mg "range" = none
  min : mg "min" = none
  max : mg "max" = none
  isi : mg "isinstance" = none
  int : mg "int" = none
  bool : mg "bool" = none
  tuple : mg "tuple" = none
  repr : mg "repr" = none
def SameB (b : Addr) (H H' : Hp) : Prop := ∀ q o, q ≠ b → H q = some o → H' q = some o
theorem Off.same {b : Addr} {H H' : Hp} (h : Off b H H') : SameB b H H' := fun q o n e => by rw [h q n]; exact e
theorem SameB.trans {b : Addr} {H H1 H2 : Hp} (h : SameB b H H1) (k : SameB b H1 H2) : SameB b H H2 := fun q o n e => k q o n (h q o n e)
theorem SameB.refl (b : Addr) (H : Hp) : SameB b H H := fun _ _ _ e => e
theorem sb {H H' : Hp} (b : Addr) (h : Same H H') : SameB b H H' := fun q o _ e => h q o e
theorem BagS.ne {H : Hp} {b l : Addr} {o : HO} (h : BagS H b) (e : H l = some o) (n : ∀ i j : Int, o ≠ .lst [.int i, .int j]) : l ≠ b := fun z => by
  obtain ⟨i, j, h, _⟩ := h
  rw [z, h] at e
  exact n i j (Option.some.inj e).symm
theorem BagS.mon {H H' : Hp} {b : Addr} (h : BagS H b) (k : Same H H') : BagS H' b := by
  obtain ⟨i, j, h, r⟩ := h
  exact ⟨i, j, k _ _ h, r⟩
theorem sqT_b {K : PySem.W.Frag} {H H' : Hp} {a b : Addr} {xs : List V} (h : SqT K H a xs) (hb : BagS H b) (k : SameB b H H') : SqT K H' a xs := by
  obtain ⟨i, j, hb, _⟩ := hb
  exact sqT_upd h (fun ys z => by rw [hb] at z; cases z) (fun o ys z => by rw [hb] at z; cases z) k
def DutAt (K : PySem.W.Frag) (H : Hp) (q : Addr) (v : B5) : Prop := ∃ t1 t2 t3 t4 t5, H q = some (.lst [.ref t1, .ref t2, .ref t3, .ref t4, .ref t5]) ∧ ok5 v ∧ SqT K H t1 (wv v.1) ∧ SqT K H t2 (wv v.2.1) ∧ SqT K H t3 (wv v.2.2.1) ∧ SqT K H t4 (wv v.2.2.2.1) ∧ SqT K H t5 (wv v.2.2.2.2)
theorem DutAt.same {K : PySem.W.Frag} {H H' : Hp} {q : Addr} {v : B5} (h : DutAt K H q v) (k : Same H H') : DutAt K H' q v := by
  obtain ⟨t1, t2, t3, t4, t5, e, o, h1, h2, h3, h4, h5⟩ := h
  exact ⟨t1, t2, t3, t4, t5, k _ _ e, o, sqT_same h1 k, sqT_same h2 k, sqT_same h3 k, sqT_same h4 k, sqT_same h5 k⟩
theorem DutAt.b {K : PySem.W.Frag} {H H' : Hp} {q b : Addr} {v : B5} (h : DutAt K H q v) (hb : BagS H b) (k : SameB b H H') : DutAt K H' q v := by
  obtain ⟨t1, t2, t3, t4, t5, e, o, h1, h2, h3, h4, h5⟩ := h
  exact ⟨t1, t2, t3, t4, t5, k _ _ (hb.ne e fun i j z => by cases z) e, o, sqT_b h1 hb k, sqT_b h2 hb k, sqT_b h3 hb k, sqT_b h4 hb k, sqT_b h5 hb k⟩
def NineAt (K : PySem.W.Frag) (H : Hp) (x : V) : Option B5 → Prop
  | none => x = .non
  | some v => ∃ q, x = .ref q ∧ DutAt K H q v
def ToldAt (K : PySem.W.Frag) (H : Hp) (l : Addr) (s : S8) (o : Option B5) : Prop := ∃ x, H l = some (.lst (vals8 s ++ [x])) ∧ s.Ok ∧ NineAt K H x o
theorem NineAt.same {K : PySem.W.Frag} {H H' : Hp} {x : V} : ∀ {o : Option B5}, NineAt K H x o → Same H H' → NineAt K H' x o
  | none, h, _ => h
  | some v, ⟨q, e, h⟩, k => ⟨q, e, h.same k⟩
theorem NineAt.b {K : PySem.W.Frag} {H H' : Hp} {x : V} {b : Addr} : ∀ {o : Option B5}, NineAt K H x o → BagS H b → SameB b H H' → NineAt K H' x o
  | none, h, _, _ => h
  | some v, ⟨q, e, h⟩, hb, k => ⟨q, e, h.b hb k⟩
theorem ToldAt.same {K : PySem.W.Frag} {H H' : Hp} {l : Addr} {s : S8} {o : Option B5} (h : ToldAt K H l s o) (k : Same H H') : ToldAt K H' l s o := by
  obtain ⟨x, e, hs, n⟩ := h
  exact ⟨x, k _ _ e, hs, n.same k⟩
theorem ToldAt.b {K : PySem.W.Frag} {H H' : Hp} {l b : Addr} {s : S8} {o : Option B5} (h : ToldAt K H l s o) (hb : BagS H b) (k : SameB b H H') : ToldAt K H' l s o := by
  obtain ⟨x, e, hs, n⟩ := h
  exact ⟨x, k _ _ (hb.ne e fun i j z => by cases z) e, hs, n.b hb k⟩
def ok5? (o : Option B5) : Prop := ∀ v, o = some v → ok5 v
theorem NineAt.ok {K : PySem.W.Frag} {H : Hp} {x : V} : ∀ {o : Option B5}, NineAt K H x o → ok5 (o.getD std5)
  | none, _ => ok_std
  | some v, ⟨_, _, h⟩ => by
    obtain ⟨_, _, _, _, _, _, o, _⟩ := h
    exact o
def spOf : Sp := fun vs H Q _ => ∃ (b l : Addr) (xs : List V), vs = [.ref b, .ref l] ∧ BagS H b ∧ H l = some (.lst xs) ∧ 3 ≤ xs.length ∧ xs.length < 1000 ∧ ∀ (x : V) H', x ∈ xs → BagS H' b → SameB b H H' → Q x H'
def spWays : Sp := fun vs H Q _ => ∃ n : Int, vs = [.int n] ∧ 0 ≤ n ∧ n < 8 ∧ ∀ H' t, Same H H' → H t = none → H' t = some (.tup (wv n.toNat)) → Q (.ref t) H'
def bits3 : List (Str × Int) := [("to", 1), ("from", 2), ("both", 4)]
theorem bits_ways : ∀ n : Nat, n < 8 → (bits3.filter fun x => decide (V.int (((n : Int).fdiv x.2) % 2) = .int 1)).map (fun x => V.str x.1) = wv n := by decide +kernel
section
variable {P : Program} {w : World} {K : PySem.W.Frag} {mg : Str → Option Value} {base : Heap}
theorem scOf : FnScope ["_law_bag_here", "_law_some"] ["_law_bag_here", "_law_some"] (defScope s__law_of) := ⟨rfl, rfl, rfl, by decide +kernel, rfl, by decide +kernel, by decide +kernel⟩
theorem ok_of {f fT : Addr} {fd fdT : FuncData} (F : Fun K "_law_of" "_law_of" s__law_of f fd) (B : TB mg) (GT : FnOk P w K mg base CX0 1 fT fdT ["_law_bag_here", "_law_many"] spTake2) (DT : Def K mg "_law_take" fT fdT ["_law_bag_here", "_law_many"]) : FnOk P w K mg base CX0 2 f fd ["_law_bag_here", "_law_some"] spOf := by
  refine F.ok scOf (fun vs H Q E h => ?_) (fun cdv A outer s H vs Q E hr h => ?_)
  · obtain ⟨b, l, xs, rfl, _⟩ := h
    rfl
  · obtain ⟨b, l, xs, rfl, hb, hl, x1, x2, k⟩ := h
    refine ⟨_, pss_one (ps_ret (pe_ix ix_list (pv 1) (pe_call GT hr (by rfl) DT.at_ DT.kp DT.bd .nil pass0 (pa_cons (pv 0) (pa_cons (pe_callB call_len_seq (by rfl) B.len PySem.boot_len (pa_cons (pv 1) pa_nil)) pa_nil))) (fun _ _ => rfl))), ?_⟩
    refine ⟨_, rfl, _, rfl, _, rfl, l, xs, rfl, .inl (SqL.of hl), b, _, rfl, by omega, by omega, hb, fun r H' r0 r1 hb' of => ?_⟩
    have nl : l ≠ b := hb.ne hl fun i j z => by
      injection z with z
      rw [z] at x1
      simp at x1
    have hi : r.toNat < xs.length := by omega
    refine ⟨l, xs, _, xs[r.toNat], rfl, rfl, SqL.of (of.same _ _ nl hl), at_of (j := r.toNat) (by omega) (List.getElem?_eq_getElem hi), ?_⟩
    exact k _ _ (List.getElem_mem hi) hb' of.same
abbrev NWa : List Str := ["_law_number", "_law_way", "_law_bit"]
theorem scWays : FnScope NWa ["_law_number"] (defScope s__law_ways) := ⟨rfl, rfl, rfl, by decide +kernel, rfl, by decide +kernel, by decide +kernel⟩
theorem ok_ways {f : Addr} {fd : FuncData} (F : Fun K "_law_ways" "_law_ways" s__law_ways f fd) (B : TB mg) : FnOk P w K mg base CX0 1 f fd ["_law_number"] spWays := by
  refine F.ok scWays (fun vs H Q E h => ?_) (fun cdv A outer s H vs Q E hr h => ?_)
  · obtain ⟨n, rfl, _⟩ := h
    rfl
  · obtain ⟨n, rfl, n0, n1, k⟩ := h
    refine ⟨_, pss_one (ps_ret (pe_callTy call_tuple_of (by rfl) B.tuple (by decide +kernel) (pa_cons (pe_lc (own := [("_law_way", 1), ("_law_bit", 2)]) (g := gTup K 2 (gCons (gName 1) (gCons (gName 2) gNil))) rfl scWays.nd
      (pi_tup (pe_tup (pa_cons (pe_tup (pa_cons pe_str (pa_cons pe_int pa_nil))) (pa_cons (pe_tup (pa_cons pe_str (pa_cons pe_int pa_nil))) (pa_cons (pe_tup (pa_cons pe_str (pa_cons pe_int pa_nil))) pa_nil))))) (blkOk_by (N := NWa) (sc := defScope s__law_ways) (by decide +kernel))
      (fun _ _ _ _ _ => pg_tup rfl (pgs_cons (pg_name (i := 1) scWays.nd rfl (Or.inl rfl)) (pgs_cons (pg_name (i := 2) scWays.nd rfl (Or.inl rfl)) pgs_nil))) (fun _ _ _ _ _ => pts_one (pt_cmpR op_eq (pe_op op_mod (pe_op op_fdivN (pv 0) (pv 2)) pe_int) pe_int (nomark _))) (fun _ _ _ _ _ => pv 1)) pa_nil))), ?_⟩
    refine ⟨(by show 2 ≤ sizeLine; decide), fun u1 nu1 => ⟨(by show 2 ≤ sizeLine; decide), fun u2 nu2 => ⟨(by show 2 ≤ sizeLine; decide), fun u3 nu3 => ⟨(by show 3 ≤ sizeLine; decide), fun u nu => ?_⟩⟩⟩⟩
    have s1 := put_same (o := .tup [.str "to", .int 1]) nu1
    have s2 := put_same (o := .tup [.str "from", .int 2]) nu2
    have s3 := put_same (o := .tup [.str "both", .int 4]) nu3
    have s4 := put_same (o := .tup [.ref u1, .ref u2, .ref u3]) nu
    have e1 := s4 _ _ (s3 _ _ (s2 _ _ (upd_same (H := H) (a := u1) (o := .tup [.str "to", .int 1]))))
    have e2 := s4 _ _ (s3 _ _ (upd_same (H := upd H u1 (.tup [.str "to", .int 1])) (a := u2) (o := .tup [.str "from", .int 2])))
    have e3 := s4 _ _ (upd_same (H := upd (upd H u1 (.tup [.str "to", .int 1])) u2 (.tup [.str "from", .int 2])) (a := u3) (o := .tup [.str "both", .int 4]))
    have e4 := upd_same (H := upd (upd (upd H u1 (.tup [.str "to", .int 1])) u2 (.tup [.str "from", .int 2])) u3 (.tup [.str "both", .int 4])) (a := u) (o := .tup [.ref u1, .ref u2, .ref u3])
    have kk := ((s1.trans s2).trans s3).trans s4
    generalize upd _ u _ = H4 at e1 e2 e3 e4 kk ⊢
    refine ⟨u, rfl, ⟨_, .inl (.inl e4)⟩, fun D nD => lc_tup (K := K) (a := u) (xs := [.ref u1, .ref u2, .ref u3]) (fun i H' => Same H4 H' ∧ H' D = some (.lst (((bits3.take i).filter fun x => decide (V.int ((n.fdiv x.2) % 2) = .int 1)).map fun x => V.str x.1))) ⟨put_same nD, upd_same⟩ (fun i H' _ p => .inl (.inl (p.1 _ _ e4))) (fun i x H' hx p => ?_) fun H' p => ?_⟩
    · obtain ⟨p1, p2⟩ := p
      have row : ∃ (t : Addr) (wd : Str) (bt : Int), x = .ref t ∧ H4 t = some (.tup [.str wd, .int bt]) ∧ bits3[i]? = some (wd, bt) ∧ 1 ≤ bt ∧ bt < 1073741824 := by
        match i, hx with
        | 0, hx => cases hx; exact ⟨u1, _, _, rfl, e1, rfl, by decide, by decide⟩
        | 1, hx => cases hx; exact ⟨u2, _, _, rfl, e2, rfl, by decide, by decide⟩
        | 2, hx => cases hx; exact ⟨u3, _, _, rfl, e3, rfl, by decide, by decide⟩
        | j + 3, hx => simp at hx
      obtain ⟨t, wd, bt, rfl, et, hi, b1, b2⟩ := row
      refine ⟨t, _, rfl, .inl (.inl (p1 _ _ et)), rfl, _, _, rfl, _, _, rfl, rfl, rfl, ?_⟩
      refine ⟨_, rfl, _, rfl, _, _, rfl, rfl, ⟨by omega, by omega⟩, _, _, rfl, rfl, (by show (0 : Int) < 2; decide), rfl, _, rfl, ?_⟩
      refine ite2 (fun hc => ?_) fun hc => ?_
      · refine ⟨_, rfl, _, p2, ?_, (fun c o e => ?_), ?_⟩
        · rw [List.length_map]
          refine Nat.lt_of_le_of_lt (List.length_filter_le _ _) (Nat.lt_of_le_of_lt (List.length_take_le' _ _) (show 3 < sizeLine by decide))
        · rw [upd_ne (ne_of_none e nD)]
          exact p1 _ _ e
        · have z : ((some (wd, bt)).toList).filter (fun x : Str × Int => decide (V.int ((n.fdiv x.2) % 2) = .int 1)) = [(wd, bt)] := by
            show List.filter _ [(wd, bt)] = _
            rw [List.filter_cons]
            exact if_pos hc
          rw [upd_same, List.take_add_one, hi, List.filter_append, z, List.map_append]
          rfl
      · refine ⟨p1, ?_⟩
        have z : ((some (wd, bt)).toList).filter (fun x : Str × Int => decide (V.int ((n.fdiv x.2) % 2) = .int 1)) = [] := by
          show List.filter _ [(wd, bt)] = _
          rw [List.filter_cons]
          exact if_neg hc
        rw [p2, List.take_add_one, hi, List.filter_append, z, List.append_nil]
    · obtain ⟨p1, p2⟩ := p
      rw [show bits3.take [V.ref u1, V.ref u2, V.ref u3].length = bits3 from rfl] at p2
      have hn : (n.toNat : Int) = n := Int.toNat_of_nonneg n0
      have e := bits_ways n.toNat (by omega)
      rw [hn] at e
      rw [e] at p2
      refine ⟨D, _, rfl, .inl ⟨SqL.of p2, fun t nt => ?_⟩⟩
      exact k _ t ((kk.trans p1).trans (put_same nt)) ((kk.trans p1).free nt) upd_same
end
end Sc
namespace Sc
open PySem L2
/-! ### _law_arguments -/
def spArgs (K : PySem.W.Frag) : Sp := fun vs H Q _ => ∃ b : Addr, vs = [.ref b] ∧ BagS H b ∧ ∀ H' l s o, BagS H' b → SameB b H H' → ToldAt K H' l s o → Q (.ref l) H'
/-- what the comprehension has made -/
def PWs (b : Addr) (H1 : Hp) (D : Addr) (i : Nat) (H' : Hp) : Prop := ∃ (ts : List Addr) (ms : List Nat), SameB b H1 H' ∧ BagS H' b ∧ H' D = some (.lst (ts.map V.ref)) ∧ ts.length = i ∧ Paired (fun (t : Addr) (m : Nat) => H' t = some (.tup (wv m)) ∧ m < 8) ts ms
abbrev NAr : List Str := ["_law_bag_here", "_law_found", "_law_k"]
section
variable {P : Program} {w : World} {K : PySem.W.Frag} {mg : Str → Option Value} {base : Heap}
theorem scArgs : FnScope NAr ["_law_bag_here"] (defScope s__law_arguments) := ⟨rfl, rfl, rfl, by decide +kernel, rfl, by decide +kernel, by decide +kernel⟩
theorem bl_two (r : Int) : ∃ c : Bool, V.bl (decide (V.int r = V.int 0)) = .bl c := ⟨_, rfl⟩
theorem ok_args {f fT fO fW : Addr} {fd fdT fdO fdW : FuncData} (F : Fun K "_law_arguments" "_law_arguments" s__law_arguments f fd) (B : TB mg) (GT : FnOk P w K mg base CX0 1 fT fdT ["_law_bag_here", "_law_many"] spTake2) (DT : Def K mg "_law_take" fT fdT ["_law_bag_here", "_law_many"])
    (GO : FnOk P w K mg base CX0 2 fO fdO ["_law_bag_here", "_law_some"] spOf) (DO : Def K mg "_law_of" fO fdO ["_law_bag_here", "_law_some"]) (GW : FnOk P w K mg base CX0 1 fW fdW ["_law_number"] spWays) (DW : Def K mg "_law_ways" fW fdW ["_law_number"]) : FnOk P w K mg base CX0 3 f fd ["_law_bag_here"] (spArgs K) := by
  refine F.ok scArgs (fun vs H Q E h => ?_) (fun cdv A outer s H vs Q E hr h => ?_)
  · obtain ⟨b, rfl, _⟩ := h
    rfl
  · obtain ⟨b, rfl, hb, k⟩ := h
    have hr1 : Room 1 _ := hr.mono (by decide)
    refine ⟨_, pss_cons (ps_set (i := 1) scArgs.nd rfl (Or.inl rfl) (pe_lst (pa_cons (pe_call GO hr (by rfl) DO.at_ DO.kp DO.bd .nil pass0 (pa_cons (pv 0) (pa_cons (pe_lst (pa_cons pe_str (pa_cons pe_str (pa_cons pe_str pa_nil)))) pa_nil)))
        (pa_cons (pe_cmpR op_eq (pe_call GT hr1 (by rfl) DT.at_ DT.kp DT.bd .nil pass0 (pa_cons (pv 0) (pa_cons pe_int pa_nil))) pe_int (nomark _)) (pa_cons (pe_call GT hr1 (by rfl) DT.at_ DT.kp DT.bd .nil pass0 (pa_cons (pv 0) (pa_cons pe_int pa_nil))) (pa_cons (pe_cmpR op_eq (pe_call GT hr1 (by rfl) DT.at_ DT.kp DT.bd .nil pass0 (pa_cons (pv 0) (pa_cons pe_int pa_nil))) pe_int (nomark _)) pa_nil))))))
      (pss_cons (ps_set (i := 1) scArgs.nd rfl (Or.inl rfl) (pe_op op_cat (pv 1) (pe_lst (pa_cons (pe_cmpR op_eq (pe_call GT hr1 (by rfl) DT.at_ DT.kp DT.bd .nil pass0 (pa_cons (pv 0) (pa_cons pe_int pa_nil))) pe_int (nomark _)) (pa_cons (pe_call GO hr (by rfl) DO.at_ DO.kp DO.bd .nil pass0 (pa_cons (pv 0) (pa_cons (pe_lst (pa_cons pe_str (pa_cons pe_str (pa_cons pe_str (pa_cons pe_str (pa_cons pe_str pa_nil)))))) pa_nil))) pa_nil)))))
      (pss_cons (ps_set (i := 1) scArgs.nd rfl (Or.inl rfl) (pe_op op_cat (pv 1) (pe_lst (pa_cons (pe_op op_add pe_int (pe_call GT hr1 (by rfl) DT.at_ DT.kp DT.bd .nil pass0 (pa_cons (pv 0) (pa_cons pe_int pa_nil)))) (pa_cons (pe_op op_add pe_int (pe_call GT hr1 (by rfl) DT.at_ DT.kp DT.bd .nil pass0 (pa_cons (pv 0) (pa_cons pe_int pa_nil)))) pa_nil)))))
      (pss_one (ps_ret (pe_op op_cat (pv 1) (pe_lst (pa_cons (pe_ifExp (pt_cmpR op_eq (pe_call GT hr1 (by rfl) DT.at_ DT.kp DT.bd .nil pass0 (pa_cons (pv 0) (pa_cons pe_int pa_nil))) pe_int (nomark _))
        (pe_lc (own := [("_law_k", 2)]) (g := gName 2) (tt := tYes) rfl scArgs.nd (pi_range1 (by rfl) B.range (pa_cons pe_int pa_nil)) (blkOk_by (N := NAr) (sc := defScope s__law_arguments) (by decide +kernel))
          (fun _ _ _ _ _ => pg_name (i := 2) scArgs.nd rfl (Or.inl rfl)) (fun _ _ _ _ _ => pts_nil) (fun _ _ _ _ _ => pe_call GW hr1 (by rfl) DW.at_ DW.kp DW.bd .nil pass0 (pa_cons (pe_call GT hr1 (by rfl) DT.at_ DT.kp DT.bd .nil pass0 (pa_cons (pv 0) (pa_cons pe_int pa_nil))) pa_nil))) pe_non) pa_nil))))))), ?_⟩
    refine ⟨_, rfl, (by show 3 ≤ sizeLine; decide), fun c1 n1 => ?_⟩
    have s1 := put_same (o := .lst cpV) n1
    refine ⟨b, c1, cpV, rfl, hb.mon s1, upd_same, by decide, by decide, fun x1 H1 m1 b1 q1 => ?_⟩
    have t1 := (sb b s1).trans q1
    refine ⟨_, rfl, b, 2, rfl, by decide, by decide, b1, fun r2 H2 _ _ b2 o2 => ⟨rfl, ?_⟩⟩
    have t2 := t1.trans o2.same
    refine ⟨_, rfl, b, 9, rfl, by decide, by decide, b2, fun r3 H3 r30 r31 b3 o3 => ?_⟩
    have t3 := t2.trans o3.same
    refine ⟨_, rfl, b, 2, rfl, by decide, by decide, b3, fun r4 H4 _ _ b4 o4 => ⟨rfl, ?_⟩⟩
    have t4 := t3.trans o4.same
    refine ⟨(by show 4 ≤ sizeLine; decide), fun l4 nl4 => ?_⟩
    have s5 := put_same (o := .lst [x1, .bl (decide (V.int r2 = .int 0)), .int r3, .bl (decide (V.int r4 = .int 0))]) nl4
    have t5 := t4.trans (sb b s5)
    have b5 := b4.mon s5
    have e5 := upd_same (H := H4) (a := l4) (o := .lst [x1, .bl (decide (V.int r2 = .int 0)), .int r3, .bl (decide (V.int r4 = .int 0))])
    generalize upd H4 l4 _ = H5 at s5 t5 b5 e5 ⊢
    refine ⟨_, rfl, _, rfl, b, 2, rfl, by decide, by decide, b5, fun r6 H6 _ _ b6 o6 => ⟨rfl, ?_⟩⟩
    have t6 := t5.trans o6.same
    have e6 := o6.same _ _ (b5.ne e5 fun i j z => by cases z) e5
    refine ⟨_, rfl, (by show 5 ≤ sizeLine; decide), fun c7 n7 => ?_⟩
    have s7 := put_same (o := .lst plV) n7
    refine ⟨b, c7, plV, rfl, b6.mon s7, upd_same, by decide, by decide, fun x7 H7 m7 b7 q7 => ?_⟩
    have t7 := t6.trans ((sb b s7).trans q7)
    have e7 := q7 _ _ ((b6.mon s7).ne (s7 _ _ e6) fun i j z => by cases z) (s7 _ _ e6)
    refine ⟨(by show 2 ≤ sizeLine; decide), fun l8 nl8 => ?_⟩
    have s8 := put_same (o := .lst [.bl (decide (V.int r6 = .int 0)), x7]) nl8
    have e8 := upd_same (H := H7) (a := l8) (o := .lst [.bl (decide (V.int r6 = .int 0)), x7])
    have f8 := s8 _ _ e7
    have t8 := t7.trans (sb b s8)
    have b8 := b7.mon s8
    generalize upd H7 l8 _ = H8 at s8 e8 f8 t8 b8 ⊢
    refine ⟨l4, l8, _, _, rfl, rfl, f8, e8, (by show 6 ≤ sizeLine; decide), fun l9 nl9 => ?_⟩
    have s9 := put_same (o := .lst ([x1, .bl (decide (V.int r2 = .int 0)), .int r3, .bl (decide (V.int r4 = .int 0))] ++ [.bl (decide (V.int r6 = .int 0)), x7])) nl9
    have e9 := upd_same (H := H8) (a := l9) (o := .lst ([x1, .bl (decide (V.int r2 = .int 0)), .int r3, .bl (decide (V.int r4 = .int 0))] ++ [.bl (decide (V.int r6 = .int 0)), x7]))
    have t9 := t8.trans (sb b s9)
    have b9 := b8.mon s9
    generalize upd H8 l9 _ = H9 at s9 e9 t9 b9 ⊢
    refine ⟨_, rfl, _, rfl, b, 32, rfl, by decide, by decide, b9, fun r10 H10 g0 g1 b10 o10 => ⟨_, _, rfl, rfl, ?_⟩⟩
    have t10 := t9.trans o10.same
    have e10 := o10.same _ _ (b9.ne e9 fun i j z => by cases z) e9
    refine ⟨_, rfl, b, 32, rfl, by decide, by decide, b10, fun r11 H11 h0 h1 b11 o11 => ⟨_, _, rfl, rfl, ?_⟩⟩
    have t11 := t10.trans o11.same
    have e11 := o11.same _ _ (b10.ne e10 fun i j z => by cases z) e10
    refine ⟨(by show 2 ≤ sizeLine; decide), fun l12 nl12 => ?_⟩
    dsimp only [List.cons_append, List.nil_append] at e11 ⊢
    have s12 := put_same (o := .lst [.int (1 + r10), .int (1 + r11)]) nl12
    have e12 := upd_same (H := H11) (a := l12) (o := .lst [.int (1 + r10), .int (1 + r11)])
    have f12 := s12 _ _ e11
    have t12 := t11.trans (sb b s12)
    have b12 := b11.mon s12
    generalize upd H11 l12 _ = H12 at s12 e12 f12 t12 b12 ⊢
    refine ⟨l9, l12, _, _, rfl, rfl, f12, e12, (by show 8 ≤ sizeLine; decide), fun l13 nl13 => ?_⟩
    dsimp only [List.cons_append, List.nil_append]
    obtain ⟨z1, rfl, zc⟩ : ∃ z, x1 = .str z ∧ inV (.str z) cpV = true := by
      simp only [List.mem_cons, List.not_mem_nil, or_false] at m1
      rcases m1 with rfl | rfl | rfl <;> exact ⟨_, rfl, by decide +kernel⟩
    obtain ⟨z2, rfl, zp⟩ : ∃ z, x7 = .str z ∧ inV (.str z) plV = true := by
      simp only [List.mem_cons, List.not_mem_nil, or_false] at m7
      rcases m7 with rfl | rfl | rfl | rfl | rfl <;> exact ⟨_, rfl, by decide +kernel⟩
    obtain ⟨S, hS, sok⟩ : ∃ S : S8, [V.str z1, .bl (decide (V.int r2 = .int 0)), .int r3, .bl (decide (V.int r4 = .int 0)), .bl (decide (V.int r6 = .int 0)), .str z2, .int (1 + r10), .int (1 + r11)] = vals8 S ∧ S.Ok := ⟨⟨z1, _, r3, _, _, z2, 1 + r10, 1 + r11⟩, rfl, ⟨zc, r30, by show r3 ≤ 8; omega, zp, by show 1 ≤ 1 + r10; omega, by show 1 + r10 ≤ 32; omega, by show 1 ≤ 1 + r11; omega, by show 1 + r11 ≤ 32; omega⟩⟩
    rw [hS]
    have s13 := put_same (o := .lst (vals8 S)) nl13
    have e13 := upd_same (H := H12) (a := l13) (o := .lst (vals8 S))
    have t13 := t12.trans (sb b s13)
    have b13 := b12.mon s13
    generalize upd H12 l13 _ = H13 at s13 e13 t13 b13 ⊢
    refine ⟨_, rfl, _, rfl, b, 2, rfl, by decide, by decide, b13, fun r14 H14 _ _ b14 o14 => ⟨rfl, _, rfl, ?_⟩⟩
    have t14 := t13.trans o14.same
    have e14 := o14.same _ _ (b13.ne e13 fun i j z => by cases z) e13
    -- the last step: a list of one value is put behind
    have fin : ∀ (o : Option B5) (x : V) (Hx : Hp), BagS Hx b → SameB b H14 Hx → NineAt K Hx x o → ∀ l, Hx l = none → ∀ r, (upd Hx l (.lst [x])) r = none → Q (.ref r) (upd (upd Hx l (.lst [x])) r (.lst (vals8 S ++ [x]))) := fun o x Hx bx tx nx l nl r nr => by
      have sx := (put_same (o := .lst [x]) nl).trans (put_same (o := .lst (vals8 S ++ [x])) nr)
      exact k _ _ S o (bx.mon sx) ((t14.trans tx).trans (sb b sx)) ⟨x, upd_same, sok, nx.same sx⟩
    have e8v : (vals8 S).length = 8 := rfl
    refine ite2 (fun _ => ?_) fun _ => ?_
    · refine ⟨5, rfl, by decide, by decide, fun D nD => lc_range (lo := 0) (n := 5) (PWs b H14 D) ⟨[], [], sb b (put_same nD), b14.mon (put_same nD), upd_same, rfl, .nil⟩ (fun i Hi hi p => ?_) fun Hi p => ?_⟩
      · obtain ⟨ts, ms, p1, p2, p3, p4, p5⟩ := p
        refine ⟨rfl, _, rfl, b, 8, rfl, by decide, by decide, p2, fun m Hm m0 m1 bm om => ⟨m, rfl, m0, m1, fun Ht t st nt et => ?_⟩⟩
        have hD : Hm D = some (.lst (ts.map V.ref)) := om.same _ _ (fun z => by
          have := p2
          obtain ⟨i, j, q, _⟩ := this
          have nb : D ≠ b := fun z => by
            obtain ⟨i, j, q, _⟩ := b14
            rw [z, q] at nD
            cases nD
          exact nb z) p3
        have nDt : t ≠ D := fun z => by rw [z, hD] at nt; cases nt
        refine ⟨ts.map V.ref, st _ _ hD, ?_, ts ++ [t], ms ++ [m.toNat], fun c o nc e => ?_, ?_, ?_, by rw [List.length_append, p4]; rfl, ?_⟩
        · rw [List.length_map, p4]
          exact Nat.lt_of_lt_of_le hi (by decide)
        · rw [upd_ne (ne_of_none e nD)]
          exact st _ _ (om.same _ _ nc (p1 _ _ nc e))
        · obtain ⟨i, j, q, z⟩ := bm
          refine ⟨i, j, ?_, z⟩
          rw [upd_ne (fun z => by rw [← z] at hD; rw [q] at hD; injection hD with hD; injection hD with hD; have := congrArg List.length hD; cases ts with | nil => simp at this | cons a r => cases hD)]
          exact st _ _ q
        · rw [upd_same, List.map_append]
          rfl
        · refine paired_snoc ?_ (L2.Paired.mapP p5 fun t' m' z => ⟨?_, z.2⟩)
          · refine ⟨?_, by omega⟩
            rw [upd_ne nDt]
            exact et
          · have h1 := st _ _ (om.same _ _ (p2.ne z.1 fun i j z => by cases z) z.1)
            rw [upd_ne (fun q => by rw [q] at h1; rw [st _ _ hD] at h1; cases h1)]
            exact h1
      · obtain ⟨ts, ms, p1, p2, p3, p4, p5⟩ := p
        have hl := paired_len p5
        match ts, ms, p4, hl with
        | [t1, t2, t3, t4, t5], [m1, m2, m3, m4, m5], _, _ =>
          cases p5 with
          | cons a1 p5 => cases p5 with
          | cons a2 p5 => cases p5 with
          | cons a3 p5 => cases p5 with
          | cons a4 p5 => cases p5 with
          | cons a5 p5 =>
            have eD : Hi l13 = some (.lst (vals8 S)) := p1 _ _ (b14.ne e14 fun i j z => by cases z) e14
            refine ⟨(by show 1 ≤ sizeLine; decide), fun l nl => ⟨l13, l, _, _, rfl, rfl, put_same nl _ _ eD, upd_same, (by show 9 ≤ sizeLine; decide), fun r nr => fin (some (m1, m2, m3, m4, m5)) (.ref D) Hi p2 p1 ⟨D, rfl, t1, t2, t3, t4, t5, p3, ⟨a1.2, a2.2, a3.2, a4.2, a5.2⟩, .inl (.inl a1.1), .inl (.inl a2.1), .inl (.inl a3.1), .inl (.inl a4.1), .inl (.inl a5.1)⟩ l nl r nr⟩⟩
    · exact ⟨(by show 1 ≤ sizeLine; decide), fun l nl => ⟨l13, l, _, _, rfl, rfl, put_same nl _ _ e14, upd_same, (by show 9 ≤ sizeLine; decide), fun r nr => fin none .non H14 b14 (SameB.refl _ _) rfl l nl r nr⟩⟩
end
end Sc
namespace Sc
open PySem L2
/-! ### _law_book, _law_duties, _law_full -/
def spLBook (K : PySem.W.Frag) (CB : Addr) : Sp := fun vs H Q _ => ∃ (q : Addr) (v : B5), vs = [.ref q] ∧ DutAt K H q v ∧ ∀ H' x, Same H H' → H x = none → BookAt K CB H' x v → Q (.ref x) H'
def spLDut (K : PySem.W.Frag) (CB : Addr) : Sp := fun vs H Q _ => ∃ (b : Addr) (v : B5), vs = [.ref b] ∧ BookAt K CB H b v ∧ ∀ H' q, Same H H' → H q = none → DutAt K H' q v → Q (.ref q) H'
def spLFull (K : PySem.W.Frag) : Sp := fun vs H Q _ => ∃ (l : Addr) (s : S8) (o : Option B5), vs = [.ref l] ∧ ToldAt K H l s o ∧ ∀ H' r, Same H H' → H r = none → ToldAt K H' r s (some (o.getD std5)) → Q (.ref r) H'
abbrev NLb : List Str := ["_law_duties_here", "_law_a", "_law_b", "_law_c", "_law_d", "_law_e"]
abbrev NFu : List Str := ["_law_told", "_law_standard"]
section
variable {P : Program} {w : World} {K : PySem.W.Frag} {mg : Str → Option Value} {base : Heap} {CB dT wT : Addr}
theorem scLBook : FnScope NLb ["_law_duties_here"] (defScope s__law_book) := ⟨rfl, rfl, rfl, by decide +kernel, rfl, by decide +kernel, by decide +kernel⟩
theorem ok_lbook {f fI : Addr} {fd fdI : FuncData} (F : Fun K "_law_book" "_law_book" s__law_book f fd) (T : TBk K mg CB) (M : Mk K CB fI) (GI : FnOk P w K mg base CX0 2 fI fdI NBk (spBInit K CB)) (FI : FB K dT wT fI fdI) : FnOk P w K mg base CX0 4 f fd ["_law_duties_here"] (spLBook K CB) := by
  obtain ⟨g, hb⟩ := kb_rev FI
  refine F.ok scLBook (fun vs H Q E h => ?_) (fun cdv A outer s H vs Q E hr h => ?_)
  · obtain ⟨q, v, rfl, _⟩ := h
    rfl
  · obtain ⟨q, v, rfl, ⟨t1, t2, t3, t4, t5, eq, hv, h1, h2, h3, h4, h5⟩, k⟩ := h
    refine ⟨_, pss_cons (ps_asg (pv 0) (pg_lst rfl (pgs_cons (pg_name (i := 1) scLBook.nd rfl (Or.inl rfl)) (pgs_cons (pg_name (i := 2) scLBook.nd rfl (Or.inl rfl)) (pgs_cons (pg_name (i := 3) scLBook.nd rfl (Or.inl rfl)) (pgs_cons (pg_name (i := 4) scLBook.nd rfl (Or.inl rfl)) (pgs_cons (pg_name (i := 5) scLBook.nd rfl (Or.inl rfl)) pgs_nil)))))))
      (pss_one (ps_ret (pe_makeK0 M GI hr (by rfl) T.mgB hb pass0 (pk_cons (pv 5) (pk_cons (pv 4) (pk_cons (pv 3) (pk_cons (pv 2) (pk_cons (pv 1) pk_nil)))))))), ?_⟩
    refine ⟨_, rfl, q, _, rfl, SqL.of eq, rfl, _, _, rfl, _, _, rfl, _, _, rfl, _, _, rfl, _, _, rfl, rfl, ?_⟩
    refine ⟨_, rfl, _, rfl, _, rfl, _, rfl, _, rfl, rfl, rfl, fun x dx nx nd ne => ?_⟩
    obtain ⟨s0, fin⟩ := book_new (CB := CB) (H3 := H) nx nd ne hv h1 h2 h3 h4 h5
    refine ⟨x, dx, t1, t2, t3, t4, t5, v, rfl, upd_same, hv, sqT_same h1 s0, sqT_same h2 s0, sqT_same h3 s0, sqT_same h4 s0, sqT_same h5 s0, fun H3 hk e3 => ⟨rfl, ?_⟩⟩
    obtain ⟨s3, b3⟩ := (book_new (CB := CB) (H3 := H3) nx nd ne hv h1 h2 h3 h4 h5).2 hk e3
    exact k _ _ s3 nx b3
theorem scLDut : FnScope ["_law_some"] ["_law_some"] (defScope s__law_duties) := ⟨rfl, rfl, rfl, by decide +kernel, rfl, by decide +kernel, by decide +kernel⟩
theorem ok_ldut {f : Addr} {fd : FuncData} (F : Fun K "_law_duties" "_law_duties" s__law_duties f fd) (T : TBk K mg CB) : FnOk P w K mg base CX0 1 f fd ["_law_some"] (spLDut K CB) := by
  refine F.ok scLDut (fun vs H Q E h => ?_) (fun cdv A outer s H vs Q E hr h => ?_)
  · obtain ⟨q, v, rfl, _⟩ := h
    rfl
  · obtain ⟨b, v, rfl, ⟨dx, t1, t2, t3, t4, t5, eb, hv, h1, h2, h3, h4, h5⟩, k⟩ := h
    refine ⟨_, pss_one (ps_ret (pe_lst (pa_cons (pe_fld (pv 0) rfl) (pa_cons (pe_fld (pv 0) rfl) (pa_cons (pe_fld (pv 0) rfl) (pa_cons (pe_fld (pv 0) rfl) (pa_cons (pe_fld (pv 0) rfl) pa_nil))))))), ?_⟩
    refine ⟨_, rfl, b, CB, dx, _, _, rfl, eb, T.cl, T.n1, bk1 .., _, rfl, b, CB, dx, _, _, rfl, eb, T.cl, T.n2, bk2 .., _, rfl, b, CB, dx, _, _, rfl, eb, T.cl, T.n3, bk3 .., _, rfl, b, CB, dx, _, _, rfl, eb, T.cl, T.n4, bk4 .., _, rfl, b, CB, dx, _, _, rfl, eb, T.cl, T.n5, bk5 .., (by show 5 ≤ sizeLine; decide), fun q nq => ?_⟩
    have sq := put_same (o := .lst [.ref t1, .ref t2, .ref t3, .ref t4, .ref t5]) nq
    exact k _ q sq nq ⟨t1, t2, t3, t4, t5, upd_same, hv, sqT_same h1 sq, sqT_same h2 sq, sqT_same h3 sq, sqT_same h4 sq, sqT_same h5 sq⟩
theorem scLFull : FnScope NFu ["_law_told"] (defScope s__law_full) := ⟨rfl, rfl, rfl, by decide +kernel, rfl, by decide +kernel, by decide +kernel⟩
theorem ok_lfull {f fW : Addr} {fd fdW : FuncData} (F : Fun K "_law_full" "_law_full" s__law_full f fd) (GW : FnOk P w K mg base CX0 1 fW fdW ["_law_number"] spWays) (DW : Def K mg "_law_ways" fW fdW ["_law_number"]) : FnOk P w K mg base CX0 2 f fd ["_law_told"] (spLFull K) := by
  refine F.ok scLFull (fun vs H Q E h => ?_) (fun cdv A outer s H vs Q E hr h => ?_)
  · obtain ⟨l, s, o, rfl, _⟩ := h
    rfl
  · obtain ⟨l, s, o, rfl, ⟨x, el, hs, nx⟩, k⟩ := h
    refine ⟨_, pss_cons (ps_set (i := 1) scLFull.nd rfl (Or.inl rfl) (pe_lst (pa_cons (pe_call GW hr (by rfl) DW.at_ DW.kp DW.bd .nil pass0 (pa_cons pe_int pa_nil)) (pa_cons (pe_call GW hr (by rfl) DW.at_ DW.kp DW.bd .nil pass0 (pa_cons pe_int pa_nil)) (pa_cons (pe_call GW hr (by rfl) DW.at_ DW.kp DW.bd .nil pass0 (pa_cons pe_int pa_nil))
        (pa_cons (pe_call GW hr (by rfl) DW.at_ DW.kp DW.bd .nil pass0 (pa_cons pe_int pa_nil)) (pa_cons (pe_call GW hr (by rfl) DW.at_ DW.kp DW.bd .nil pass0 (pa_cons pe_int pa_nil)) pa_nil)))))))
      (pss_one (ps_ret (pe_op op_cat (pe_slice (r := rSlL K) sl_list (pv 0) po_none (po_some pe_int)) (pe_lst (pa_cons (pe_ifExp (pt_cmpR op_isN (pe_ix ix_list (pv 0) pe_int (fun _ _ => rfl)) pe_non (nomark _)) (pv 1) (pe_ix ix_list (pv 0) pe_int (fun _ _ => rfl))) pa_nil))))), ?_⟩
    refine ⟨7, rfl, by decide, by decide, fun H1 t1 s1 n1 e1 => ⟨6, rfl, by decide, by decide, fun H2 t2 s2 n2 e2 => ⟨7, rfl, by decide, by decide, fun H3 t3 s3 n3 e3 => ⟨7, rfl, by decide, by decide, fun H4 t4 s4 n4 e4 => ⟨6, rfl, by decide, by decide, fun H5 t5 s5 n5 e5 => ⟨(by show 5 ≤ sizeLine; decide), fun q nq => ?_⟩⟩⟩⟩⟩⟩
    have s6 := put_same (o := .lst [.ref t1, .ref t2, .ref t3, .ref t4, .ref t5]) nq
    have k1 := s1
    have k2 := k1.trans s2
    have k3 := k2.trans s3
    have k4 := k3.trans s4
    have k5 := k4.trans s5
    have k6 := k5.trans s6
    have dq : DutAt K (upd H5 q (.lst [.ref t1, .ref t2, .ref t3, .ref t4, .ref t5])) q std5 := ⟨t1, t2, t3, t4, t5, upd_same, ok_std, .inl (.inl (s6 _ _ (s5 _ _ (s4 _ _ (s3 _ _ (s2 _ _ e1)))))), .inl (.inl (s6 _ _ (s5 _ _ (s4 _ _ (s3 _ _ e2))))), .inl (.inl (s6 _ _ (s5 _ _ (s4 _ _ e3)))), .inl (.inl (s6 _ _ (s5 _ _ e4))), .inl (.inl (s6 _ _ e5))⟩
    generalize upd H5 q _ = H6 at s6 k6 dq ⊢
    have el6 := k6 _ _ el
    refine ⟨_, rfl, _, rfl, l, _, rfl, SqL.of el6, fun c nc => ?_⟩
    have s7 := put_same (o := .lst (cutV (vals8 s ++ [x]) none (some 8))) nc
    have el7 := s7 _ _ el6
    have ec : (upd H6 c (.lst (cutV (vals8 s ++ [x]) none (some 8)))) c = some (.lst (vals8 s)) := upd_same (H := H6) (a := c) (o := .lst (cutV (vals8 s ++ [x]) none (some 8)))
    have dq7 := dq.same s7
    have nx7 := nx.same (k6.trans s7)
    have k7 := k6.trans s7
    generalize upd H6 c _ = H7 at s7 el7 ec dq7 nx7 k7 ⊢
    refine ⟨_, rfl, l, _, _, x, rfl, rfl, SqL.of el7, rfl, rfl, _, rfl, ?_⟩
    have fin : ∀ (y : V), NineAt K H7 y (some (o.getD std5)) → ∀ u, H7 u = none → ∀ r, (upd H7 u (.lst [y])) r = none → Q (.ref r) (upd (upd H7 u (.lst [y])) r (.lst (vals8 s ++ [y]))) := fun y ny u nu r nr => by
      have sx := (put_same (o := .lst [y]) nu).trans (put_same (o := .lst (vals8 s ++ [y])) nr)
      exact k _ r (k7.trans sx) (k7.free (by
        have := (put_same (o := .lst [y]) nu)
        exact this.free nr)) ⟨y, upd_same, hs, ny.same sx⟩
    cases o with
    | none =>
      cases nx
      refine iteT ⟨_, rfl, (by show 1 ≤ sizeLine; decide), fun u nu => ⟨c, u, _, _, rfl, rfl, put_same nu _ _ ec, upd_same, (by show 9 ≤ sizeLine; decide), fun r nr => fin (.ref q) ⟨q, rfl, dq7⟩ u nu r nr⟩⟩
    | some v =>
      obtain ⟨q', rfl, hq'⟩ := nx7
      refine iteF ⟨_, rfl, l, _, _, _, rfl, rfl, SqL.of el7, rfl, (by show 1 ≤ sizeLine; decide), fun u nu => ⟨c, u, _, _, rfl, rfl, put_same nu _ _ ec, upd_same, (by show 9 ≤ sizeLine; decide), fun r nr => fin (.ref q') ⟨q', rfl, hq'⟩ u nu r nr⟩⟩
end
end Sc
namespace Sc
open PySem L2
/-! ### how a setting's arguments are bound -/
def kwS : List (Str × V) := [("copies", .str "none"), ("cached", .bl false), ("batch", .int 0), ("early", .bl false), ("drain", .bl true), ("policy", .str "first"), ("groups", .int 16), ("tables", .int 16), ("book", .non)]
abbrev FSt (K : PySem.W.Frag) (f : Addr) (fd : FuncData) : Prop := FunD K "__init__" "Setting.__init__" (defArgs s_Setting___init__) (defBody s_Setting___init__) (defScope s_Setting___init__) [] kwS f fd
section
variable {K : PySem.W.Frag} {f : Addr} {fd : FuncData}
theorem ks_none (F : FSt K f fd) : ∃ g, KBn K fd NSt 1 [] g (fun vs zs => vs ++ kwS.map (·.2)) := by
  obtain ⟨mv, h⟩ := F.kbinds0 (ps := NSt) 1 [] kwS (fun vs mz zs => vs ++ mz) (fun z => by cases z) (fun q hq => hq) (fun a b c => a.append b) (fun D doc pm an cdv ct us mv ws hu hm hw => match us, mv, ws, hu, hm, hw with
    | [_], [_, _, _, _, _, _, _, _, _], [], _, _, _ => ⟨_, _, _, _, _, _, rfl, rfl, _, _, _, _, _, _, rfl, rfl, _, _, _, _, _, _, rfl, rfl, _, _, _, _, _, _, rfl, rfl, _, _, _, _, _, _, rfl, rfl, _, _, _, _, _, _, rfl, rfl, _, _, _, _, _, _, rfl, rfl, _, _, _, _, _, _, rfl, rfl, _, _, _, _, _, _, rfl, rfl, rfl⟩)
  exact ⟨_, h⟩
theorem ks_rev (F : FSt K f fd) : ∃ g, KBn K fd NSt 1 ["book", "tables", "groups", "policy", "drain", "early", "batch", "cached", "copies"] g (fun vs zs => vs ++ zs.reverse) := by
  obtain ⟨mv, h⟩ := F.kbinds0 (ps := NSt) 1 ["book", "tables", "groups", "policy", "drain", "early", "batch", "cached", "copies"] [] (fun vs mz zs => vs ++ zs.reverse) (fun z => by cases z) (fun q hq => by cases hq) (fun a b c => a.append c.reverse) (fun D doc pm an cdv ct us mv ws hu hm hw => match us, mv, ws, hu, hm, hw with
    | [_], [], [_, _, _, _, _, _, _, _, _], _, _, _ => rfl)
  exact ⟨_, h⟩
theorem ks_one (F : FSt K f fd) : ∃ g, KBn K fd NSt 1 ["copies"] g (fun vs zs => vs ++ (zs ++ kwS.tail.map (·.2))) := by
  obtain ⟨mv, h⟩ := F.kbinds0 (ps := NSt) 1 ["copies"] kwS.tail (fun vs mz zs => vs ++ (zs ++ mz)) (fun z => by cases z) (fun q hq => List.mem_of_mem_tail hq) (fun a b c => a.append (c.append b)) (fun D doc pm an cdv ct us mv ws hu hm hw => match us, mv, ws, hu, hm, hw with
    | [_], [_, _, _, _, _, _, _, _], [_], _, _, _ => ⟨_, _, _, _, _, _, rfl, rfl, _, _, _, _, _, _, rfl, rfl, _, _, _, _, _, _, rfl, rfl, _, _, _, _, _, _, rfl, rfl, _, _, _, _, _, _, rfl, rfl, _, _, _, _, _, _, rfl, rfl, _, _, _, _, _, _, rfl, rfl, _, _, _, _, _, _, rfl, rfl, rfl⟩)
  exact ⟨_, h⟩
def kwT : List (Str × V) := [("copies", .str "none"), ("early", .bl false), ("drain", .bl true), ("policy", .str "first"), ("groups", .int 16), ("tables", .int 16), ("book", .non)]
theorem kwT_in : ∀ q ∈ kwT, q ∈ kwS := by
  intro q hq
  simp only [kwT, List.mem_cons, List.not_mem_nil, or_false] at hq
  rcases hq with rfl | rfl | rfl | rfl | rfl | rfl | rfl <;> simp [kwS]
theorem ks_two (F : FSt K f fd) : ∃ g, KBn K fd NSt 1 ["cached", "batch"] g (fun vs zs => vs ++ ((kwT.map (·.2)).take 1 ++ (zs ++ (kwT.map (·.2)).drop 1))) := by
  obtain ⟨mv, h⟩ := F.kbinds0 (ps := NSt) 1 ["cached", "batch"] kwT (fun vs mz zs => vs ++ (mz.take 1 ++ (zs ++ mz.drop 1))) (fun z => by cases z) kwT_in (fun a b c => a.append ((b.take 1).append (c.append (b.drop 1)))) (fun D doc pm an cdv ct us mv ws hu hm hw => match us, mv, ws, hu, hm, hw with
    | [_], [_, _, _, _, _, _, _], [_, _], _, _, _ => ⟨_, _, _, _, _, _, rfl, rfl, _, _, _, _, _, _, rfl, rfl, _, _, _, _, _, _, rfl, rfl, _, _, _, _, _, _, rfl, rfl, _, _, _, _, _, _, rfl, rfl, _, _, _, _, _, _, rfl, rfl, _, _, _, _, _, _, rfl, rfl, rfl⟩)
  exact ⟨_, h⟩
end
/-- what a call of Setting asks, and what it gives -/
theorem set_new {K : PySem.W.Frag} {CS CB : Addr} {H : Hp} {x dx : Addr} {s : S8} {bk : V} {v : B5} {Q : VK} {E : XK} (nx : H x = none) (nd : H dx = none) (ne : dx ≠ x) (hs : s.Ok) (hb : BkArg K CB H bk v) (k : ∀ H' y, Same H H' → H y = none → SetAt K CS CB H' y s v → Q (.ref y) H') :
    spStInit K CS CB (.ref x :: (vals8 s ++ [bk])) (upd (upd H dx (.own x)) x (.ins CS dx [])) (fun u H3 => u = .non ∧ Q (.ref x) H3) E := by
  have s0 : Same H (upd (upd H dx (.own x)) x (.ins CS dx [])) := fun c o e => by
    rw [upd_ne (ne_of_none e nx), upd_ne (ne_of_none e nd)]
    exact e
  refine ⟨x, dx, s, bk, v, rfl, upd_same, hs, ?_, fun H' b' hk e nb hB => ⟨rfl, k _ x (fun c o q => hk _ _ (ne_of_none q nx) (s0 _ _ q)) nx ⟨dx, b', e, hs, hB⟩⟩⟩
  rcases hb with ⟨rfl, rfl⟩ | ⟨b, rfl, hb⟩
  · exact .inl ⟨rfl, rfl⟩
  · exact .inr ⟨b, rfl, hb.same s0⟩
def spLSet (K : PySem.W.Frag) (CS CB : Addr) : Sp := fun vs H Q _ => ∃ (l : Addr) (s : S8) (o : Option B5), vs = [.ref l] ∧ ToldAt K H l s o ∧ ∀ H' x, Same H H' → H x = none → SetAt K CS CB H' x s (o.getD std5) → Q (.ref x) H'
def spLCh (K : PySem.W.Frag) : Sp := fun vs H Q _ => ∃ (b l : Addr) (s : S8) (o : Option B5), vs = [.ref b, .ref l] ∧ BagS H b ∧ ToldAt K H l s o ∧ ∀ H' r s' o', BagS H' b → SameB b H H' → ToldAt K H' r s' o' → Q (.ref r) H'
abbrev NLs : List Str := ["_law_told", "_law_one", "_law_two", "_law_three", "_law_four", "_law_five", "_law_six", "_law_seven", "_law_eight", "_law_nine", "_law_made"]
abbrev NCh : List Str := ["_law_bag_here", "_law_told", "_law_at", "_law_other"]
/-- one of nine is changed -/
theorem nine_ch {K : PySem.W.Frag} {H : Hp} {s t : S8} {x y : V} {o p : Option B5} {r : Int} (h0 : 0 ≤ r) (h1 : r < 9) (hs : s.Ok) (ht : t.Ok) (nx : NineAt K H x o) (ny : NineAt K H y p) :
    ∃ z, atI (vals8 t ++ [y]) r = some z ∧ ∃ (u : S8) (a : V) (q : Option B5), cutV (vals8 s ++ [x]) none (some r) ++ [z] ++ cutV (vals8 s ++ [x]) (some (r + 1)) none = vals8 u ++ [a] ∧ u.Ok ∧ NineAt K H a q := by
  have c : r = 0 ∨ r = 1 ∨ r = 2 ∨ r = 3 ∨ r = 4 ∨ r = 5 ∨ r = 6 ∨ r = 7 ∨ r = 8 := by omega
  rcases c with rfl | rfl | rfl | rfl | rfl | rfl | rfl | rfl | rfl
  · exact ⟨_, rfl, { s with copies := t.copies }, x, o, rfl, { hs with c := ht.c }, nx⟩
  · exact ⟨_, rfl, { s with cached := t.cached }, x, o, rfl, { hs with }, nx⟩
  · exact ⟨_, rfl, { s with batch := t.batch }, x, o, rfl, { hs with b0 := ht.b0, b1 := ht.b1 }, nx⟩
  · exact ⟨_, rfl, { s with early := t.early }, x, o, rfl, { hs with }, nx⟩
  · exact ⟨_, rfl, { s with drain := t.drain }, x, o, rfl, { hs with }, nx⟩
  · exact ⟨_, rfl, { s with policy := t.policy }, x, o, rfl, { hs with p := ht.p }, nx⟩
  · exact ⟨_, rfl, { s with groups := t.groups }, x, o, rfl, { hs with g0 := ht.g0, g1 := ht.g1 }, nx⟩
  · exact ⟨_, rfl, { s with tables := t.tables }, x, o, rfl, { hs with t0 := ht.t0, t1 := ht.t1 }, nx⟩
  · exact ⟨_, rfl, s, y, p, rfl, hs, ny⟩
section
variable {P : Program} {w : World} {K : PySem.W.Frag} {mg : Str → Option Value} {base : Heap} {CS CB : Addr}
theorem scLSet : FnScope NLs ["_law_told"] (defScope s__law_setting) := ⟨rfl, rfl, rfl, by decide +kernel, rfl, by decide +kernel, by decide +kernel⟩
theorem ok_lset {f fI fB : Addr} {fd fdI fdB : FuncData} (F : Fun K "_law_setting" "_law_setting" s__law_setting f fd) (U : TSt K mg CS) (M : Mk K CS fI) (GI : FnOk P w K mg base CX0 5 fI fdI NSt (spStInit K CS CB)) (FI : FSt K fI fdI)
    (GB : FnOk P w K mg base CX0 4 fB fdB ["_law_duties_here"] (spLBook K CB)) (DB : Def K mg "_law_book" fB fdB ["_law_duties_here"]) : FnOk P w K mg base CX0 7 f fd ["_law_told"] (spLSet K CS CB) := by
  obtain ⟨g, hb⟩ := ks_rev FI
  refine F.ok scLSet (fun vs H Q E h => ?_) (fun cdv A outer s H vs Q E hr h => ?_)
  · obtain ⟨l, s, o, rfl, _⟩ := h
    rfl
  · obtain ⟨l, s, o, rfl, ⟨x, el, hs, nx⟩, k⟩ := h
    refine ⟨_, pss_cons (ps_asg (pv 0) (pg_lst rfl (pgs_cons (pg_name (i := 1) scLSet.nd rfl (Or.inl rfl)) (pgs_cons (pg_name (i := 2) scLSet.nd rfl (Or.inl rfl)) (pgs_cons (pg_name (i := 3) scLSet.nd rfl (Or.inl rfl)) (pgs_cons (pg_name (i := 4) scLSet.nd rfl (Or.inl rfl)) (pgs_cons (pg_name (i := 5) scLSet.nd rfl (Or.inl rfl)) (pgs_cons (pg_name (i := 6) scLSet.nd rfl (Or.inl rfl)) (pgs_cons (pg_name (i := 7) scLSet.nd rfl (Or.inl rfl)) (pgs_cons (pg_name (i := 8) scLSet.nd rfl (Or.inl rfl)) (pgs_cons (pg_name (i := 9) scLSet.nd rfl (Or.inl rfl)) pgs_nil)))))))))))
      (pss_cons (ps_set (i := 10) scLSet.nd rfl (Or.inl rfl) (pe_ifExp (pt_cmpR op_isN (pv 9) pe_non (nomark _)) pe_non (pe_call GB (hr.mono (by decide)) (by rfl) DB.at_ DB.kp DB.bd .nil pass0 (pa_cons (pv 9) pa_nil))))
      (pss_one (ps_ret (pe_makeK0 M GI hr (by rfl) U.mgS hb pass0 (pk_cons (pv 10) (pk_cons (pv 8) (pk_cons (pv 7) (pk_cons (pv 6) (pk_cons (pv 5) (pk_cons (pv 4) (pk_cons (pv 3) (pk_cons (pv 2) (pk_cons (pv 1) pk_nil))))))))))))), ?_⟩
    refine ⟨_, rfl, l, _, rfl, SqL.of el, rfl, _, _, rfl, _, _, rfl, _, _, rfl, _, _, rfl, _, _, rfl, _, _, rfl, _, _, rfl, _, _, rfl, _, _, rfl, rfl, ?_⟩
    refine ⟨_, rfl, rfl, _, rfl, ?_⟩
    cases o with
    | none =>
      cases nx
      refine iteT ⟨_, rfl, _, rfl, _, rfl, _, rfl, _, rfl, _, rfl, _, rfl, _, rfl, _, rfl, rfl, rfl, fun y dy ny nd ne => ?_⟩
      exact set_new ny nd ne hs (.inl ⟨rfl, rfl⟩) k
    | some v =>
      obtain ⟨q, rfl, hq⟩ := nx
      refine iteF ⟨_, rfl, q, v, rfl, hq, fun H1 b s1 nb hB => ?_⟩
      refine ⟨_, rfl, _, rfl, _, rfl, _, rfl, _, rfl, _, rfl, _, rfl, _, rfl, _, rfl, rfl, rfl, fun y dy ny nd ne => ?_⟩
      exact set_new ny nd ne hs (.inr ⟨b, rfl, hB⟩) fun H' z sz nz hz => k _ z (s1.trans sz) (s1.free nz) hz
theorem scLCh : FnScope NCh ["_law_bag_here", "_law_told"] (defScope s__law_changed) := ⟨rfl, rfl, rfl, by decide +kernel, rfl, by decide +kernel, by decide +kernel⟩
theorem ok_lch {f fT fA : Addr} {fd fdT fdA : FuncData} (F : Fun K "_law_changed" "_law_changed" s__law_changed f fd) (GT : FnOk P w K mg base CX0 1 fT fdT ["_law_bag_here", "_law_many"] spTake2) (DT : Def K mg "_law_take" fT fdT ["_law_bag_here", "_law_many"])
    (GA : FnOk P w K mg base CX0 3 fA fdA ["_law_bag_here"] (spArgs K)) (DA : Def K mg "_law_arguments" fA fdA ["_law_bag_here"]) : FnOk P w K mg base CX0 4 f fd ["_law_bag_here", "_law_told"] (spLCh K) := by
  refine F.ok scLCh (fun vs H Q E h => ?_) (fun cdv A outer s H vs Q E hr h => ?_)
  · obtain ⟨b, l, s, o, rfl, _⟩ := h
    rfl
  · obtain ⟨b, l, s, o, rfl, hb, tl, k⟩ := h
    refine ⟨_, pss_cons (ps_par (i := 2) (j := 3) rfl scLCh.nd rfl rfl (by decide) rfl rfl (pa_cons (pe_call GT (hr.mono (by decide)) (by rfl) DT.at_ DT.kp DT.bd .nil pass0 (pa_cons (pv 0) (pa_cons pe_int pa_nil))) (pa_cons (pe_call GA hr (by rfl) DA.at_ DA.kp DA.bd .nil pass0 (pa_cons (pv 0) pa_nil)) pa_nil)) (by rfl))
      (pss_one (ps_ret (pe_op op_cat (pe_op op_cat (pe_slice (r := rSlL K) sl_list (pv 1) po_none (po_some (pv 2))) (pe_lst (pa_cons (pe_ix ix_list (pv 3) (pv 2) (fun _ _ => rfl)) pa_nil))) (pe_slice (r := rSlL K) sl_list (pv 1) (po_some (pe_op op_add (pv 2) pe_int)) po_none)))), ?_⟩
    refine ⟨_, rfl, b, 9, rfl, by decide, by decide, hb, fun r H1 r0 r1 b1 o1 => ?_⟩
    refine ⟨_, rfl, b, rfl, b1, fun H2 l2 t p b2 k2 tl2 => ⟨_, _, rfl, ?_⟩⟩
    obtain ⟨x, el, hs, nx⟩ := (tl.b hb o1.same).b b1 k2
    obtain ⟨y, el2, ht, ny⟩ := tl2
    obtain ⟨z, hz, u, a, q, e, hu, na⟩ := nine_ch r0 r1 hs ht nx ny
    refine ⟨_, rfl, _, rfl, _, rfl, l, _, rfl, SqL.of el, fun c1 n1 => ?_⟩
    have s1 := put_same (o := .lst (cutV (vals8 s ++ [x]) none (some r))) n1
    refine ⟨_, rfl, _, rfl, l2, _, _, z, rfl, rfl, SqL.of (s1 _ _ el2), hz, (by show 1 ≤ sizeLine; decide), fun c2 n2 => ?_⟩
    have s2 := put_same (o := .lst [z]) n2
    have len1 := cutV_length (vals8 s ++ [x]) none (some r)
    have len2 := cutV_length (vals8 s ++ [x]) (some (r + 1)) none
    have l9 : (vals8 s ++ [x]).length = 9 := rfl
    rw [l9] at len1 len2
    have f1 := s2 _ _ (upd_same (H := H2) (a := c1) (o := .lst (cutV (vals8 s ++ [x]) none (some r))))
    refine ⟨c1, c2, _, _, rfl, rfl, f1, upd_same, ?_, fun c3 n3 => ?_⟩
    · exact Nat.le_trans (show _ ≤ 20 by rw [List.length_singleton]; omega) (by decide)
    have s3 := put_same (o := .lst (cutV (vals8 s ++ [x]) none (some r) ++ [z])) n3
    have k3 := (s1.trans s2).trans s3
    refine ⟨_, rfl, _, rfl, _, _, rfl, rfl, _, rfl, l, _, rfl, SqL.of (k3 _ _ el), fun c4 n4 => ?_⟩
    have s4 := put_same (o := .lst (cutV (vals8 s ++ [x]) (some (r + 1)) none)) n4
    refine ⟨c3, c4, _, _, rfl, rfl, s4 _ _ upd_same, upd_same, ?_, fun c5 n5 => ?_⟩
    · rw [List.length_append, List.length_singleton]
      exact Nat.le_trans (show _ ≤ 20 by omega) (by decide)
    rw [e]
    have s5 := put_same (o := .lst (vals8 u ++ [a])) n5
    have k5 := (k3.trans s4).trans s5
    exact k _ c5 u q (b2.mon k5) (o1.same.trans (k2.trans (sb b k5))) ⟨a, upd_same, hu, na.same k5⟩
end
end Sc
namespace Sc
open PySem L2
/-! ### _law_shows -/
def spLSh (K : PySem.W.Frag) (CS CB : Addr) : Sp := fun vs H Q _ => ∃ (a l : Addr) (s : S8) (o : Option B5), vs = [.ref a, .ref l] ∧ SetAt K CS CB H a s (o.getD std5) ∧ ToldAt K H l s o ∧ ∀ H', Same H H' → Q (.bl true) H'
theorem u65 {k : Nat} {A : Around} (r : Room k A) : A.units + 65 < cLine := by have := r.un; omega
abbrev NSh : List Str := ["_law_one", "_law_told", "_law_standard", "_law_due", "_law_found"]
theorem dp8 {K : PySem.W.Frag} {H : Hp} {l : Addr} {s : S8} (h : H l = some (.lst (vals8 s))) : Dp K H (.ref l) (.list (ds8 s)) := .lst (SqL.of h) (.cons (.str _) (.cons (.bl _) (.cons (.int _) (.cons (.bl _) (.cons (.bl _) (.cons (.str _) (.cons (.int _) (.cons (.int _) .nil))))))))
theorem DutAt.dp {K : PySem.W.Frag} {H : Hp} {q : Addr} {v : B5} (h : DutAt K H q v) : Dp K H (.ref q) (.list (ds5 v)) := by
  obtain ⟨t1, t2, t3, t4, t5, e, _, h1, h2, h3, h4, h5⟩ := h
  exact .lst (SqL.of e) (.cons (dp_w h1) (.cons (dp_w h2) (.cons (dp_w h3) (.cons (dp_w h4) (.cons (dp_w h5) .nil)))))
section
variable {P : Program} {w : World} {K : PySem.W.Frag} {mg : Str → Option Value} {base : Heap} {CS CB : Addr}
theorem scLSh : FnScope NSh ["_law_one", "_law_told"] (defScope s__law_shows) := ⟨rfl, rfl, rfl, by decide +kernel, rfl, by decide +kernel, by decide +kernel⟩
theorem ok_lsh {f fD : Addr} {fd fdD : FuncData} (F : Fun K "_law_shows" "_law_shows" s__law_shows f fd) (U : TSt K mg CS) (T : TBk K mg CB) (Z : IsR K CB) (B : TB mg) (GD : FnOk P w K mg base CX0 1 fD fdD ["_law_some"] (spLDut K CB)) (DD : Def K mg "_law_duties" fD fdD ["_law_some"]) :
    Gu.FnG P w K mg base CX0 2 f fd ["_law_one", "_law_told"] (spLSh K CS CB) := by
  refine Gu.ok_g F scLSh (fun vs H Q E h => ?_) (fun cdv A outer s H vs Q E hg hr h => ?_)
  · obtain ⟨a, l, s, o, rfl, _⟩ := h
    rfl
  · obtain ⟨a, l, s, o, rfl, ⟨dx, b, ea, hs, hb⟩, ⟨x, el, _, nx⟩, k⟩ := h
    refine ⟨_, pss_cons (ps_set (i := 2) scLSh.nd rfl (Or.inl rfl) (pe_lst (pa_cons (pe_tup (pa_cons pe_str (pa_cons pe_str (pa_cons pe_str pa_nil)))) (pa_cons (pe_tup (pa_cons pe_str (pa_cons pe_str pa_nil))) (pa_cons (pe_tup (pa_cons pe_str (pa_cons pe_str (pa_cons pe_str pa_nil)))) (pa_cons (pe_tup (pa_cons pe_str (pa_cons pe_str (pa_cons pe_str pa_nil)))) pa_nil))))))
      (C8.pss_cut (ps_set (i := 3) scLSh.nd rfl (Or.inl rfl) (pe_ifExp (pt_cmpR op_notN (pe_ix ix_list (pv 1) pe_int (fun _ _ => rfl)) pe_non (nomark _)) (pe_ix ix_list (pv 1) pe_int (fun _ _ => rfl)) (pe_op op_cat (pv 2) (pe_lst (pa_cons (pe_tup (pa_cons pe_str (pa_cons pe_str pa_nil))) pa_nil)))))
      (pss_cons (ps_set (i := 4) scLSh.nd rfl (Or.inl rfl) (pe_lst (pa_cons (pe_fld (pv 0) rfl) (pa_cons (pe_fld (pv 0) rfl) (pa_cons (pe_fld (pv 0) rfl) (pa_cons (pe_fld (pv 0) rfl) (pa_cons (pe_fld (pv 0) rfl) (pa_cons (pe_fld (pv 0) rfl) (pa_cons (pe_fld (pv 0) rfl) (pa_cons (pe_fld (pv 0) rfl) pa_nil))))))))))
      (pss_cons (ps_if (PW.pt (pw_or (pt_cmpR op_ne (pe_callB (Gu.call_reprD hg (u65 hr)) (by rfl) B.repr (by decide +kernel) (pa_cons (pv 4) pa_nil)) (pe_callB (Gu.call_reprD hg (u65 hr)) (by rfl) B.repr (by decide +kernel) (pa_cons (pe_slice (r := rSlL K) sl_list (pv 1) po_none (po_some pe_int)) pa_nil)) (nomark _)) (pw_or1 (pt_not (pt_val (pe_callB call_isi (by rfl) B.isi (by decide +kernel) (pa_cons (pe_fld (pv 0) rfl) (pa_cons (pe_glob (v := .ref CB) rfl T.mgB rfl) pa_nil)))))))) (pss_one (ps_ret pe_bl)) pss_nil)
      (pss_one (ps_ret (pe_cmpR op_eq (pe_callB (Gu.call_reprD hg (u65 hr)) (by rfl) B.repr (by decide +kernel) (pa_cons (pe_call GD hr (by rfl) DD.at_ DD.kp DD.bd .nil pass0 (pa_cons (pe_fld (pv 0) rfl) pa_nil)) pa_nil)) (pe_callB (Gu.call_reprD hg (u65 hr)) (by rfl) B.repr (by decide +kernel) (pa_cons (pv 3) pa_nil)) (nomark _))))))), ?_⟩
    refine ⟨(by show 3 ≤ sizeLine; decide), fun u1 n1 => ⟨(by show 2 ≤ sizeLine; decide), fun u2 n2 => ⟨(by show 3 ≤ sizeLine; decide), fun u3 n3 => ⟨(by show 3 ≤ sizeLine; decide), fun u4 n4 => ⟨(by show 4 ≤ sizeLine; decide), fun u5 n5 => ?_⟩⟩⟩⟩⟩
    have s1 := put_same (o := .tup [.str "to", .str "from", .str "both"]) n1
    have s2 := put_same (o := .tup [.str "from", .str "both"]) n2
    have s3 := put_same (o := .tup [.str "to", .str "from", .str "both"]) n3
    have s4 := put_same (o := .tup [.str "to", .str "from", .str "both"]) n4
    have s5 := put_same (o := .lst [.ref u1, .ref u2, .ref u3, .ref u4]) n5
    have k5 := (((s1.trans s2).trans s3).trans s4).trans s5
    have f1 := s5 _ _ (s4 _ _ (s3 _ _ (s2 _ _ (upd_same (H := H) (a := u1) (o := .tup [.str "to", .str "from", .str "both"])))))
    have f2 := s5 _ _ (s4 _ _ (s3 _ _ (upd_same (H := upd H u1 (.tup [.str "to", .str "from", .str "both"])) (a := u2) (o := .tup [.str "from", .str "both"]))))
    have f3 := s5 _ _ (s4 _ _ (upd_same (H := upd (upd H u1 (.tup [.str "to", .str "from", .str "both"])) u2 (.tup [.str "from", .str "both"])) (a := u3) (o := .tup [.str "to", .str "from", .str "both"])))
    have f4 := s5 _ _ (upd_same (H := upd (upd (upd H u1 (.tup [.str "to", .str "from", .str "both"])) u2 (.tup [.str "from", .str "both"])) u3 (.tup [.str "to", .str "from", .str "both"])) (a := u4) (o := .tup [.str "to", .str "from", .str "both"]))
    have f5 := upd_same (H := upd (upd (upd (upd H u1 (.tup [.str "to", .str "from", .str "both"])) u2 (.tup [.str "from", .str "both"])) u3 (.tup [.str "to", .str "from", .str "both"])) u4 (.tup [.str "to", .str "from", .str "both"])) (a := u5) (o := .lst [.ref u1, .ref u2, .ref u3, .ref u4])
    generalize upd _ u5 _ = H5 at s5 k5 f1 f2 f3 f4 f5 ⊢
    have g1 : H5 u1 = some (.tup (wv 7)) := f1
    have g2 : H5 u2 = some (.tup (wv 6)) := f2
    have g3 : H5 u3 = some (.tup (wv 7)) := f3
    have g4 : H5 u4 = some (.tup (wv 7)) := f4
    have el5 := k5 _ _ el
    have nx5 := nx.same k5
    refine ⟨fun σ' H' => Same H5 H' ∧ ∃ due, σ' = [some (.ref a), some (.ref l), some (.ref u5), some (.ref due), none] ∧ DutAt K H' due (o.getD std5), ?_, fun σ' H6 z => ?_⟩
    · refine ⟨_, rfl, l, _, _, x, rfl, rfl, SqL.of el5, rfl, rfl, _, rfl, ?_⟩
      cases o with
      | none =>
        cases nx
        refine iteF ⟨_, rfl, (by show 2 ≤ sizeLine; decide), fun c1 m1 => ⟨(by show 1 ≤ sizeLine; decide), fun c2 m2 => ?_⟩⟩
        have r1 := put_same (o := .tup [.str "from", .str "both"]) m1
        have r2 := put_same (o := .lst [.ref c1]) m2
        refine ⟨u5, c2, _, _, rfl, rfl, r2 _ _ (r1 _ _ f5), upd_same, (by show 5 ≤ sizeLine; decide), fun c3 m3 => ?_⟩
        have r3 := put_same (o := .lst ([V.ref u1, .ref u2, .ref u3, .ref u4] ++ [.ref c1])) m3
        have r123 := (r1.trans r2).trans r3
        exact ⟨r123, c3, rfl, u1, u2, u3, u4, c1, upd_same, ok_std, .inl (.inl (r123 _ _ g1)), .inl (.inl (r123 _ _ g2)), .inl (.inl (r123 _ _ g3)), .inl (.inl (r123 _ _ g4)), .inl (.inl (r3 _ _ (r2 _ _ upd_same)))⟩
      | some v =>
        obtain ⟨q, rfl, hq⟩ := nx5
        exact iteT ⟨_, rfl, l, _, _, _, rfl, rfl, SqL.of el5, rfl, Same.refl _, q, rfl, hq⟩
    obtain ⟨s6, due, rfl, dd⟩ := z
    have k6 := k5.trans s6
    have ea6 := k6 _ _ ea
    have st : ∀ {Hx : Hp}, Hx a = some (.ins CS dx (stf s b)) → Hx a = some (.ins CS dx (stf s b)) := fun h => h
    refine ⟨_, rfl, a, CS, dx, _, _, rfl, ea6, U.cl, U.n1, st1 .., _, rfl, a, CS, dx, _, _, rfl, ea6, U.cl, U.n2, st2 .., _, rfl, a, CS, dx, _, _, rfl, ea6, U.cl, U.n3, st3 .., _, rfl, a, CS, dx, _, _, rfl, ea6, U.cl, U.n4, st4 .., _, rfl, a, CS, dx, _, _, rfl, ea6, U.cl, U.n5, st5 .., _, rfl, a, CS, dx, _, _, rfl, ea6, U.cl, U.n6, st6 .., _, rfl, a, CS, dx, _, _, rfl, ea6, U.cl, U.n7, st7 .., _, rfl, a, CS, dx, _, _, rfl, ea6, U.cl, U.n8, st8 .., (by show 8 ≤ sizeLine; decide), fun fd8 m8 => ?_⟩
    have s7 := put_same (o := .lst (vals8 s)) m8
    have e7 := upd_same (H := H6) (a := fd8) (o := .lst (vals8 s))
    have dd7 := dd.same s7
    have k7 := k6.trans s7
    generalize upd H6 fd8 _ = H7 at s7 e7 dd7 k7 ⊢
    have sh8 := (list_ok (ok_ds8 hs) (show 8 ≤ 20 by decide)).1
    have sh5 := (list_ok (ok_ds5 (o.getD std5)) (show 5 ≤ 20 by decide)).1
    refine ⟨_, rfl, fd8, _, rfl, dp8 e7, sh8, _, rfl, _, rfl, l, _, rfl, SqL.of (k7 _ _ el), fun c1 m1 => ?_⟩
    have s8 := put_same (o := .lst (cutV (vals8 s ++ [x]) none (some 8))) m1
    refine ⟨c1, _, rfl, dp8 (s := s) (upd_same (H := H7) (a := c1) (o := .lst (cutV (vals8 s ++ [x]) none (some 8)))), sh8, rfl, false, ?_, iteF ?_⟩
    · show V.bl (!decide _) = _
      rw [decide_eq_true rfl]
      rfl
    have k8 := k7.trans s8
    have dd8 := dd7.same s8
    generalize upd H7 c1 _ = H8 at s8 k8 dd8 ⊢
    obtain ⟨dxb, _, _, _, _, _, eb, _⟩ := hb.same k8
    refine ⟨_, rfl, a, CS, dx, _, _, rfl, k8 _ _ ea, U.cl, U.n9, st9 .., _, _, .ref CB, .ref CB, true, rfl, .own CB, .base (.ins eb T.cl Z.ha Z.hn Z.htk Z.hm), kit_self, _, rfl, iteF ?_⟩
    refine ⟨_, rfl, a, CS, dx, _, _, rfl, k8 _ _ ea, U.cl, U.n9, st9 .., b, _, rfl, hb.same k8, fun H9 q9 s9 n9 d9 => ?_⟩
    refine ⟨q9, _, rfl, d9.dp, sh5, _, rfl, due, _, rfl, (dd8.same s9).dp, sh5, rfl, ?_⟩
    rw [decide_eq_true rfl]
    exact k _ (k8.trans s9)
end
end Sc
namespace Sc
open PySem L2
/-! ### what the law's comparisons give -/
/-- a value of another class -/
def Odd (K : PySem.W.Frag) (C : Addr) (H : Hp) (y : V) : Prop := ∃ t, TyX K H y t ∧ PySem.W.kitOne K t (.ref C) = some false ∧ PySem.W.notFirst K C t = true
/-- the classes Setting and Book, as == and isinstance ask them -/
structure Kt (K : PySem.W.Frag) (C D : Addr) : Prop where
  no : PySem.W.kitOne K (.type "NoneType") (.ref C) = some false
  bo : PySem.W.kitOne K (.type "bool") (.ref C) = some false
  it : PySem.W.kitOne K (.type "int") (.ref C) = some false
  st : PySem.W.kitOne K (.type "str") (.ref C) = some false
  tu : PySem.W.kitOne K (.type "tuple") (.ref C) = some false
  li : PySem.W.kitOne K (.type "list") (.ref C) = some false
  ot : PySem.W.kitOne K (.ref D) (.ref C) = some false
  no' : PySem.W.notFirst K C (.type "NoneType") = true
  bo' : PySem.W.notFirst K C (.type "bool") = true
  it' : PySem.W.notFirst K C (.type "int") = true
  st' : PySem.W.notFirst K C (.type "str") = true
  tu' : PySem.W.notFirst K C (.type "tuple") = true
  li' : PySem.W.notFirst K C (.type "list") = true
  ot' : PySem.W.notFirst K C (.ref D) = true
  me' : PySem.W.notFirst K C (.ref C) = true
section
variable {K : PySem.W.Frag} {mg : Str → Option Value} {CS CB : Addr} {H : Hp} {Q : VK}
theorem eqS (U : TSt K mg CS) (Z : IsR K CS) (W : Kt K CS CB) {a b : Addr} {s r : S8} {v u : B5} (ha : SetAt K CS CB H a s v) (hb : SetAt K CS CB H b r u) (q : Q (.bl (decide (s = r ∧ v = u))) H) : Ow.rEqO K CS (spSEq K CS CB) E0 (.ref a) (.ref b) H Q := by
  obtain ⟨dx, _, ea, _⟩ := id ha
  obtain ⟨dy, _, eb, _⟩ := id hb
  exact ⟨a, dx, _, .ref CS, rfl, ea, .base (.ins eb U.cl Z.ha Z.hn Z.htk Z.hm), W.me', a, s, v, _, rfl, ha, .inl ⟨b, r, u, rfl, hb, _, rfl, q⟩⟩
theorem neS (U : TSt K mg CS) (Z : IsR K CS) (W : Kt K CS CB) {a b : Addr} {s r : S8} {v u : B5} (ha : SetAt K CS CB H a s v) (hb : SetAt K CS CB H b r u) (q : Q (.bl (!decide (s = r ∧ v = u))) H) : Ow.rNeO K CS (spSEq K CS CB) E0 (.ref a) (.ref b) H Q := by
  obtain ⟨dx, _, ea, _⟩ := id ha
  obtain ⟨dy, _, eb, _⟩ := id hb
  exact ⟨a, dx, _, .ref CS, rfl, ea, .base (.ins eb U.cl Z.ha Z.hn Z.htk Z.hm), W.me', a, s, v, _, rfl, ha, .inl ⟨b, r, u, rfl, hb, _, rfl, q⟩⟩
theorem eqSO {a : Addr} {s : S8} {v : B5} {y : V} (ha : SetAt K CS CB H a s v) (hy : Odd K CS H y) (q : Q (.bl false) H) : Ow.rEqO K CS (spSEq K CS CB) E0 (.ref a) y H Q := by
  obtain ⟨dx, _, ea, _⟩ := id ha
  obtain ⟨t, ty, k1, k2⟩ := hy
  exact ⟨a, dx, _, t, rfl, ea, ty, k2, a, s, v, _, rfl, ha, .inr ⟨t, ty, k1, _, rfl, q⟩⟩
theorem eqB (T : TBk K mg CB) (Z : IsR K CB) (W : Kt K CB CS) {a b : Addr} {v u : B5} (ha : BookAt K CB H a v) (hb : BookAt K CB H b u) (q : Q (.bl (decide (v = u))) H) : Ow.rEqO K CB (spBEq K CB) E0 (.ref a) (.ref b) H Q := by
  obtain ⟨dx, _, _, _, _, _, ea, _⟩ := id ha
  obtain ⟨dy, _, _, _, _, _, eb, _⟩ := id hb
  exact ⟨a, dx, _, .ref CB, rfl, ea, .base (.ins eb T.cl Z.ha Z.hn Z.htk Z.hm), W.me', a, v, _, rfl, ha, .inl ⟨b, u, rfl, hb, _, rfl, q⟩⟩
theorem neB (T : TBk K mg CB) (Z : IsR K CB) (W : Kt K CB CS) {a b : Addr} {v u : B5} (ha : BookAt K CB H a v) (hb : BookAt K CB H b u) (q : Q (.bl (!decide (v = u))) H) : Ow.rNeO K CB (spBEq K CB) E0 (.ref a) (.ref b) H Q := by
  obtain ⟨dx, _, _, _, _, _, ea, _⟩ := id ha
  obtain ⟨dy, _, _, _, _, _, eb, _⟩ := id hb
  exact ⟨a, dx, _, .ref CB, rfl, ea, .base (.ins eb T.cl Z.ha Z.hn Z.htk Z.hm), W.me', a, v, _, rfl, ha, .inl ⟨b, u, rfl, hb, _, rfl, q⟩⟩
theorem eqBO {a : Addr} {v : B5} {y : V} (ha : BookAt K CB H a v) (hy : Odd K CB H y) (q : Q (.bl false) H) : Ow.rEqO K CB (spBEq K CB) E0 (.ref a) y H Q := by
  obtain ⟨dx, _, _, _, _, _, ea, _⟩ := id ha
  obtain ⟨t, ty, k1, k2⟩ := hy
  exact ⟨a, dx, _, t, rfl, ea, ty, k2, a, v, _, rfl, ha, .inr ⟨t, ty, k1, _, rfl, q⟩⟩
theorem ToldAt.dp {l : Addr} {s : S8} {v : B5} (h : ToldAt K H l s (some v)) : Dp K H (.ref l) (.list (ds8 s ++ [.list (ds5 v)])) := by
  obtain ⟨x, e, _, q, rfl, hq⟩ := h
  exact .lst (SqL.of e) (.cons (.str _) (.cons (.bl _) (.cons (.int _) (.cons (.bl _) (.cons (.bl _) (.cons (.str _) (.cons (.int _) (.cons (.int _) (.cons hq.dp .nil)))))))))
theorem ToldAt.shaped {l : Addr} {s : S8} {o : Option B5} (v : B5) (h : ToldAt K H l s o) : SeqAt.shaped (.list (ds8 s ++ [.list (ds5 v)])) = true := by
  obtain ⟨x, e, hs, _⟩ := h
  refine (list_ok (ds := ds8 s ++ [PyData.list (ds5 v)]) (fun d hd => ?_) (show 9 ≤ 20 by decide)).2
  rcases List.mem_append.mp hd with h | h
  · exact ok_ds8 hs d h
  · rw [List.mem_singleton.mp h]
    exact io_d5 v
theorem ToldAt.ok5 {l : Addr} {s : S8} {o : Option B5} (h : ToldAt K H l s o) : ok5 (o.getD std5) := by
  obtain ⟨x, e, hs, n⟩ := h
  exact n.ok
end
theorem book_std {K : PySem.W.Frag} {mg : Str → Option Value} {CB dT wT cT pT : Addr} {H : Hp} {x dx : Addr} {Q : VK} {E : XK} (D : DirAt K mg dT wT cT pT) (nx : H x = none) (nd : H dx = none) (ne : dx ≠ x) (k : ∀ H' y, Same H H' → H y = none → BookAt K CB H' y std5 → Q (.ref y) H') :
    spBInit K CB (.ref x :: (kwB dT wT).map (·.2)) (upd (upd H dx (.own x)) x (.ins CB dx [])) (fun u H3 => u = .non ∧ Q (.ref x) H3) E := by
  refine ⟨x, dx, dT, wT, dT, dT, wT, std5, rfl, upd_same, ok_std, D.dirs _, D.wris _, D.dirs _, D.dirs _, D.wris _, fun H3 hk e3 => ⟨rfl, ?_⟩⟩
  obtain ⟨s3, b3⟩ := (book_new (CB := CB) (H3 := H3) nx nd ne ok_std (D.dirs H) (D.wris H) (D.dirs H) (D.dirs H) (D.wris H)).2 hk e3
  exact k _ _ s3 nx b3
theorem ToldAt.flat {K : PySem.W.Frag} {H : Hp} {l : Addr} {s : S8} {o : Option B5} (h : ToldAt K H l s o) : ∃ x, H l = some (.lst (vals8 s ++ [x])) ∧ s.Ok := by
  obtain ⟨x, e, hs, _⟩ := h
  exact ⟨x, e, hs⟩
theorem iteE {c : Bool} {A B : Prop} (h : c = false) (b : B) : if c = true then A else B := by
  subst h
  exact iteF b
/-- a setting is made, whatever comes then -/
theorem set_q {K : PySem.W.Frag} {CS CB : Addr} {H : Hp} {x dx : Addr} {s : S8} {bk : V} {v : B5} {R : VK} {E : XK} (nx : H x = none) (nd : H dx = none) (ne : dx ≠ x) (hs : s.Ok) (hb : BkArg K CB H bk v) (k : ∀ H', Same H H' → SetAt K CS CB H' x s v → R .non H') :
    spStInit K CS CB (.ref x :: (vals8 s ++ [bk])) (upd (upd H dx (.own x)) x (.ins CS dx [])) R E := by
  have s0 : Same H (upd (upd H dx (.own x)) x (.ins CS dx [])) := fun c o e => by
    rw [upd_ne (ne_of_none e nx), upd_ne (ne_of_none e nd)]
    exact e
  refine ⟨x, dx, s, bk, v, rfl, upd_same, hs, ?_, fun H' b' hk e nb hB => k _ (fun c o q => hk _ _ (ne_of_none q nx) (s0 _ _ q)) ⟨dx, b', e, hs, hB⟩⟩
  rcases hb with ⟨rfl, rfl⟩ | ⟨b, rfl, hb⟩
  · exact .inl ⟨rfl, rfl⟩
  · exact .inr ⟨b, rfl, hb.same s0⟩
theorem book_q {K : PySem.W.Frag} {mg : Str → Option Value} {CB dT wT cT pT : Addr} {H : Hp} {x dx : Addr} {R : VK} {E : XK} (D : DirAt K mg dT wT cT pT) (nx : H x = none) (nd : H dx = none) (ne : dx ≠ x) (k : ∀ H', Same H H' → BookAt K CB H' x std5 → R .non H') :
    spBInit K CB (.ref x :: (kwB dT wT).map (·.2)) (upd (upd H dx (.own x)) x (.ins CB dx [])) R E := by
  refine ⟨x, dx, dT, wT, dT, dT, wT, std5, rfl, upd_same, ok_std, D.dirs _, D.wris _, D.dirs _, D.dirs _, D.wris _, fun H3 hk e3 => ?_⟩
  obtain ⟨s3, b3⟩ := (book_new (CB := CB) (H3 := H3) nx nd ne ok_std (D.dirs H) (D.wris H) (D.dirs H) (D.dirs H) (D.wris H)).2 hk e3
  exact k _ s3 b3
/-- the script, where the bag at b is drawn from -/
def Scr (K : PySem.W.Frag) (H : Hp) (a : Addr) (xs : List V) (b : Addr) : Prop := (∀ H', SqL K H' a xs) ∨ (a ≠ b ∧ SqL K H a xs ∧ H a ≠ none)
def Scr0 (K : PySem.W.Frag) (H : Hp) (a : Addr) (xs : List V) : Prop := (∀ H', SqL K H' a xs) ∨ (SqL K H a xs ∧ H a ≠ none)
theorem Scr0.of {K : PySem.W.Frag} {H : Hp} {a : Addr} {xs : List V} (h : SqL K H a xs) : Scr0 K H a xs := by
  rcases id h with (e | ⟨o, e⟩) | k
  · exact .inr ⟨h, by rw [e]; exact fun z => nomatch z⟩
  · exact .inr ⟨h, by rw [e]; exact fun z => nomatch z⟩
  · exact .inl fun H' => .inr k
theorem Scr0.sq {K : PySem.W.Frag} {H : Hp} {a : Addr} {xs : List V} (h : Scr0 K H a xs) : SqL K H a xs := h.elim (fun z => z H) fun z => z.1
theorem Scr0.same {K : PySem.W.Frag} {H H' : Hp} {a : Addr} {xs : List V} (h : Scr0 K H a xs) (k : Same H H') : Scr0 K H' a xs := h.imp id fun z => ⟨k.seq z.1, by
  cases e : H a with
  | none => exact absurd e z.2
  | some o => rw [k _ _ e]; exact fun z => nomatch z⟩
theorem Scr0.bag {K : PySem.W.Frag} {H H' : Hp} {a b : Addr} {xs : List V} (h : Scr0 K H a xs) (nb : H b = none) (k : Same H H') : Scr K H' a xs b := by
  rcases id h with z | z
  · exact .inl z
  · rcases h.same k with y | y
    · exact .inl y
    · exact .inr ⟨fun e => z.2 (e ▸ nb), y⟩
theorem Scr.out {K : PySem.W.Frag} {H : Hp} {a b : Addr} {xs : List V} (h : Scr K H a xs b) : Scr0 K H a xs := h.imp id fun z => z.2
theorem Scr.b {K : PySem.W.Frag} {H H' : Hp} {a b : Addr} {xs : List V} (h : Scr K H a xs b) (k : SameB b H H') : Scr K H' a xs b := by
  rcases h with z | ⟨n, hs, hn⟩
  · exact .inl z
  · refine .inr ⟨n, ?_, ?_⟩
    · rcases hs with (e | ⟨o, e⟩) | z
      · exact .inl (.inl (k _ _ n e))
      · exact .inl (.inr ⟨o, k _ _ n e⟩)
      · exact .inr z
    · cases e : H a with
      | none => exact absurd e hn
      | some o => rw [k _ _ n e]; exact fun z => nomatch z
end Sc
/-! o.m(e, ..) in a try's body: what is raised is wished for at the caller's slots. -/
namespace Mw
open PySem PySem.Spec PyProof.Rows L2
section
variable {X : Cx} {CX : CXT} {k : Nat} {f C : Addr} {fd : FuncData} {ps : List Str} {sp : Sp} {E : L2.St → XK} {x m : Str} {p pos apos : Pos} {e o : Expr} {es : List Expr} {ta : TE} {t : TA}
def tMethW (C : Addr) (m : Str) (sp : Sp) (E : L2.St → XK) (ta : TE) (t : TA) : TE := fun σ H Q => ta σ H fun x H1 => ∃ a dx fs, x = .ref a ∧ H1 a = some (.ins C dx fs) ∧ fs.lookup m = none ∧ t σ H1 fun vs H2 => sp (x :: vs) H2 Q (E σ)
theorem pe_methW {pl : Sem Bool} (he : PE X o ta) (c : Cls X.K C) (hm : Meth X.K C m f) (F : FnOk X.prog X.w X.K X.mg X.base CX k f fd ps sp) (hr : Room k X.A) (hb : Binds X.K fd ps []) (hx : ∀ σ, PassesAt CX X σ (E σ)) (ha : PA X (e :: es) t)
    (h1 : starEach (e :: es) X.env = (false, eval e X.env) :: starEach es X.env := by rfl) (h2 : (backTo pos (starEach es X.env)).any (·.1) = false := by rfl)
    (h3 : eval (.Call (.Attribute o m apos) (e :: es) [] pos) X.env = (do
      let ov ← eval o X.env
      standAt apos.atName
      let (f, first) ← holding [ov] (getMethod ov m pl)
      callWith pos f first (backTo pos (starEach (e :: es) X.env)) (backToKw pos (keywordEach [] X.env))) := by rfl) : PE X (.Call (.Attribute o m apos) (e :: es) [] pos) (tMethW C m sp E ta t) := by
  refine ⟨fun pins s σ H Q I h => ?_⟩
  refine PySem.W.methodCall_KW (pl := pl) (thn (he.run pins s σ H _ I h) fun u s1 ⟨x, H1, I1, rx, a, dx, fs, ex, ea, l, q⟩ => ?_) h3
  subst ex
  cases rx
  refine getmeth_ok I1 ea c hm l (PySem.W.callWith_K (first := [.ref a]) (h₀ := X.base) I.ok.mod.kin hm.kp (thn (ha.run pos pins s1 σ H1 _ I1 q) fun us s2 ⟨vs, H2, I2, r, q2⟩ => ⟨I2.kIn, ?_⟩) h1 h2)
  exact run_fnS (us := .ref a :: us) (vs := .ref a :: vs) F hr hb (hx σ) I2 (.cons rfl r) q2
/-- o.f within a comprehension: K is told -/
theorem pe_fldK {K : PySem.W.Frag} {e : Expr} {f : Str} (h : PE X e ta) (h1 : attributeBase e f X.env (eval e X.env) = eval e X.env) (h2 : X.K = K := by rfl) : PE X (.Attribute e f pos) (tFld K ta f) := by
  subst h2
  exact pe_fld h h1
/-- the ways behind a test joined -/
theorem pt_cut {c : Expr} {t : TT} (h : PT X c t) : PT X c (fun σ H Q => ∃ R : Bool → Hp → Prop, t σ H R ∧ ∀ b H', R b H' → Q b H') := ⟨fun pins s σ H Q I h' => by
  obtain ⟨R, h1, h2⟩ := h'
  refine wpAny_mono (h.run pins s σ H R I h1) (fun b s' q => ?_) fun _ _ z => z
  obtain ⟨H', I', q⟩ := q
  exact ⟨H', I', h2 b H' q⟩⟩
end
end Mw
namespace Sc
open PySem L2
/-! ### the law -/
abbrev NL : List Str := ["_law_script", "_law_first", "_law_at", "_law_bag_here", "_law_turn", "_law_told", "_law_other", "_law_one", "_law_two", "_law_value"]
structure Mth (P : Program) (w : World) (K : PySem.W.Frag) (mg : Str → Option Value) (base : Heap) (CX : CXT) (k : Nat) (x : Str) (ps : List Str) (sp : Sp) (f : Addr) (fd : FuncData) : Prop where
  ok : FnOk P w K mg base CX k f fd ps sp
  df : Def K mg x f fd ps
structure Own (P : Program) (w : World) (K : PySem.W.Frag) (mg : Str → Option Value) (base : Heap) (C : Addr) (k : Nat) (sp : Sp) (f : Addr) (fd : FuncData) : Prop where
  ok : FnOk P w K mg base CX0 k f fd ["self", "other"] sp
  fi : PySem.W.findIn K (.ref C) "__eq__" = some (some (.ref f))
  fn : PySem.W.isFn K (.ref f) = true
  bd : Binds K fd ["self", "other"] []
  ne : PySem.W.findIn K (.ref C) "__ne__" = some (some (.builtin "object.__ne__"))
section
variable {P : Program} {w : World} {K : PySem.W.Frag} {mg : Str → Option Value} {base : Heap} {CS CB dT wT cT pT : Addr}
theorem scLaw : FnScope NL ["_law_script"] (defScope s_law) := ⟨rfl, rfl, rfl, by decide +kernel, rfl, by decide +kernel, by decide +kernel⟩
theorem ok_law {f fB fA fC fS fF fL fH fQ fP fSI fBI : Addr} {fdB fdA fdC fdS fdF fdL fdH fdQ fdP fdSI fdBI : FuncData} {dV kV doc pm ct cdv oc : Value} {an od : Option Addr} {osl : Array (Option Value)}
    (lk : K.lookup f = some ⟨oc, od, .func (PySem.W.fnOf "law" "law" (defArgs s_law) (defBody s_law) (defScope s_law) dV kV doc pm an cdv ct), osl⟩) (hcd : PySem.W.codeIn K cdv "law" = true) (hbd : ∀ (s : Shared) (u : Value), BindsTo s (PySem.W.fnOf "law" "law" (defArgs s_law) (defBody s_law) (defScope s_law) dV kV doc pm an cdv ct) ⟨[u], []⟩ [("_law_script", u)])
    (B : TB mg) (U : TSt K mg CS) (ZS : IsR K CS) (WS : Kt K CS CB) (T : TBk K mg CB) (ZB : IsR K CB) (WB : Kt K CB CS) (D : DirAt K mg dT wT cT pT)
    (YB : Mth P w K mg base CX0 1 "_law_bag" ["_law_script", "_law_at"] (spBag2 K) fB fdB) (YA : Mth P w K mg base CX0 3 "_law_arguments" ["_law_bag_here"] (spArgs K) fA fdA) (YC : Mth P w K mg base CX0 4 "_law_changed" ["_law_bag_here", "_law_told"] (spLCh K) fC fdC)
    (YS : Mth P w K mg base CX0 7 "_law_setting" ["_law_told"] (spLSet K CS CB) fS fdS) (YF : Mth P w K mg base CX0 2 "_law_full" ["_law_told"] (spLFull K) fF fdF) (YL : Mth P w K mg base CX0 4 "_law_book" ["_law_duties_here"] (spLBook K CB) fL fdL)
    (YH : Gu.FnG P w K mg base CX0 2 fH fdH ["_law_one", "_law_told"] (spLSh K CS CB)) (YHD : Def K mg "_law_shows" fH fdH ["_law_one", "_law_told"])
    (YQ : Own P w K mg base CS 2 (spSEq K CS CB) fQ fdQ) (YP : Own P w K mg base CB 1 (spBEq K CB) fP fdP)
    (MS : Mk K CS fSI) (GSI : FnOk P w K mg base CX0 5 fSI fdSI NSt (spStInit K CS CB)) (FSI : FSt K fSI fdSI) (MB : Mk K CB fBI) (GBI : FnOk P w K mg base CX0 2 fBI fdBI NBk (spBInit K CB)) (FBI : FB K dT wT fBI fdBI)
    {s : Shared} {H : Hp} {a : Addr} {ns : List Int} (hl : ns.length ≤ 63) (e0 : Env0 P w K mg base callerA [] s H) (hS : SqL K H a (ns.map V.int)) :
    codeAny (model P w) callerA (.call (.ref f) ⟨[.ref a], []⟩) (CR C8.CX0 [] P w H s (fun v _ => v = .bl true) fun _ _ _ => False) s := by
  obtain ⟨g0, hb0⟩ := kb_none FBI
  obtain ⟨g1, hs0⟩ := ks_none FSI
  obtain ⟨g2, hs1⟩ := ks_one FSI
  obtain ⟨g3, hs2⟩ := ks_two FSI
  refine LamX.run_ofS (k := 8) (N := NL) (ps := ["_law_script"]) (us := [.ref a]) (vs := [.ref a]) lk hcd scLaw ⟨rfl, by decide, by decide⟩ e0 (hbd s (.ref a)) (.cons rfl .nil) rfl fun hr => ?_
  have hG : (callerA.deeper (PyProof.Rows.envOfC "law" (defScope s_law) s.heap.objs.size f cdv)).guards = some [] := rfl
  have hr_YB : Room 1 _ := hr.mono (show 1 ≤ 8 by decide)
  have hr_YA : Room 3 _ := hr.mono (show 3 ≤ 8 by decide)
  have hr_YC : Room 4 _ := hr.mono (show 4 ≤ 8 by decide)
  have hr_YS : Room 7 _ := hr.mono (show 7 ≤ 8 by decide)
  have hr_YF : Room 2 _ := hr.mono (show 2 ≤ 8 by decide)
  have hr_YL : Room 4 _ := hr.mono (show 4 ≤ 8 by decide)
  have hr_YH : Room 2 _ := hr.mono (show 2 ≤ 8 by decide)
  have hr_Q : Room 2 _ := hr.mono (show 2 ≤ 8 by decide)
  have hr_Q3 : Room 3 _ := hr.mono (show 3 ≤ 8 by decide)
  have hr_P : Room 1 _ := hr.mono (show 1 ≤ 8 by decide)
  have hr_P2 : Room 2 _ := hr.mono (show 2 ≤ 8 by decide)
  have hr_S : Room 6 _ := hr.mono (show 6 ≤ 8 by decide)
  have hr_B : Room 3 _ := hr.mono (show 3 ≤ 8 by decide)
  suffices hh : ∃ t, PSs (cxOf C8.CX0 P w K mg base NL "law" (defScope s_law) f cdv callerA [] s H fun _ _ _ => False).nox (defBody s_law) t ∧ t { nx := fun x H' => (fun v (_ : Hp) => v = V.bl true) .non H', rt := fun v _ => v = V.bl true } (L2.start NL [.ref a]) H by
    obtain ⟨t, h1, h2⟩ := hh
    exact ⟨t, h1.nox, h2⟩
  refine ⟨_, (pss_cons (ps_set (i := 1) scLaw.nd rfl (Or.inl rfl) (pe_lst (pa_cons pe_str (pa_cons pe_bl (pa_cons pe_int (pa_cons pe_bl (pa_cons pe_bl (pa_cons pe_str (pa_cons pe_int (pa_cons pe_int (pa_cons pe_non pa_nil)))))))))))
        (pss_cons (ps_if (PW.pt (pw_or (pt_not (pt_val (Gu.pe_callG YH hG hr_YH (by rfl) YHD.at_ YHD.kp YHD.bd pass0 (pa_cons (pe_makeK0 MS GSI hr_S (by rfl) U.mgS hs0 pass0 pk_nil) (pa_cons (pv 1) pa_nil))))) (pw_or1 (pt_cmpR (op_neD hr.units) (pe_glob (v := .ref dT) rfl D.dir rfl) (pe_tup (pa_cons pe_str (pa_cons pe_str (pa_cons pe_str pa_nil)))) (nomark _))))) (pss_one (ps_ret pe_bl)) pss_nil)
        (pss_cons (ps_if (pt_cmpR (Ow.op_neO YP.ok hr_P2 YP.ne ZB.hm YP.fi YP.fn YP.bd pass0) (pe_makeK0 MB GBI hr_B (by rfl) T.mgB hb0 pass0 pk_nil) (pe_call YL.ok hr_YL (by rfl) YL.df.at_ YL.df.kp YL.df.bd .nil pass0 (pa_cons (pe_ix ix_list (pe_call YF.ok hr_YF (by rfl) YF.df.at_ YF.df.kp YF.df.bd .nil pass0 (pa_cons (pv 1) pa_nil)) pe_int (fun _ _ => rfl)) pa_nil)) (nomark _)) (pss_one (ps_ret pe_bl)) pss_nil)
        (pss_cons (ps_for PassesOwn.never rfl (pi_range1 (by rfl) B.range (pa_cons (pe_callB (call_max2 rfl) (by rfl) B.max (by decide +kernel) (pa_cons pe_int (pa_cons (pe_callB (call_min2 rfl) (by rfl) B.min (by decide +kernel) (pa_cons pe_int (pa_cons (pe_callB call_len_seq (by rfl) B.len PySem.boot_len (pa_cons (pv 0) pa_nil)) pa_nil))) pa_nil))) pa_nil)) (pg_name (i := 2) scLaw.nd rfl (Or.inl rfl)) (pss_cons (ps_set (i := 3) scLaw.nd rfl (Or.inl rfl) (pe_call YB.ok hr_YB (by rfl) YB.df.at_ YB.df.kp YB.df.bd .nil pass0 (pa_cons (pv 0) (pa_cons (pv 2) pa_nil))))
        (pss_one (ps_for PassesOwn.never rfl (pi_range1 (by rfl) B.range (pa_cons pe_int pa_nil)) (pg_name (i := 4) scLaw.nd rfl (Or.inl rfl)) (pss_cons (ps_set (i := 5) scLaw.nd rfl (Or.inl rfl) (pe_call YA.ok hr_YA (by rfl) YA.df.at_ YA.df.kp YA.df.bd .nil pass0 (pa_cons (pv 3) pa_nil)))
        (pss_cons (ps_set (i := 6) scLaw.nd rfl (Or.inl rfl) (pe_call YC.ok hr_YC (by rfl) YC.df.at_ YC.df.kp YC.df.bd .nil pass0 (pa_cons (pv 3) (pa_cons (pv 5) pa_nil))))
        (pss_cons (ps_asg (pe_tup (pa_cons (pe_call YS.ok hr_YS (by rfl) YS.df.at_ YS.df.kp YS.df.bd .nil pass0 (pa_cons (pv 5) pa_nil)) (pa_cons (pe_call YS.ok hr_YS (by rfl) YS.df.at_ YS.df.kp YS.df.bd .nil pass0 (pa_cons (pv 6) pa_nil)) pa_nil))) (pg_tup rfl (pgs_cons (pg_name (i := 7) scLaw.nd rfl (Or.inr rfl)) (pgs_cons (pg_name (i := 8) scLaw.nd rfl (Or.inl rfl)) pgs_nil))))
        (pss_cons (ps_if (PW.pt (pw_or (pt_not (pt_val (Gu.pe_callG YH hG hr_YH (by rfl) YHD.at_ YHD.kp YHD.bd pass0 (pa_cons (pv 7) (pa_cons (pv 5) pa_nil))))) (pw_or (pt_not (pt_val (Gu.pe_callG YH hG hr_YH (by rfl) YHD.at_ YHD.kp YHD.bd pass0 (pa_cons (pv 8) (pa_cons (pv 6) pa_nil))))) (pw_or1 (pt_cmpR (Ow.op_neO YQ.ok hr_Q3 YQ.ne ZS.hm YQ.fi YQ.fn YQ.bd pass0) (pv 7) (pe_call YS.ok hr_YS (by rfl) YS.df.at_ YS.df.kp YS.df.bd .nil pass0 (pa_cons (pe_call YF.ok hr_YF (by rfl) YF.df.at_ YF.df.kp YF.df.bd .nil pass0 (pa_cons (pv 5) pa_nil)) pa_nil)) (nomark _)))))) (pss_one (ps_ret pe_bl)) pss_nil)
        (pss_cons (ps_if (pt_cmpR op_ne (pe_callB Gu.call_reprB (by rfl) B.repr (by decide +kernel) (pa_cons (pe_cmpR (Ow.op_eqO YQ.ok hr_Q YQ.fi YQ.fn YQ.bd pass0) (pv 7) (pv 8) (nomark _)) pa_nil)) (pe_callB Gu.call_reprB (by rfl) B.repr (by decide +kernel) (pa_cons (pe_cmpR (op_eqD hr.units) (pe_call YF.ok hr_YF (by rfl) YF.df.at_ YF.df.kp YF.df.bd .nil pass0 (pa_cons (pv 5) pa_nil)) (pe_call YF.ok hr_YF (by rfl) YF.df.at_ YF.df.kp YF.df.bd .nil pass0 (pa_cons (pv 6) pa_nil)) (nomark _)) pa_nil)) (nomark _)) (pss_one (ps_ret pe_bl)) pss_nil)
        (pss_cons (ps_if (pt_cmpR op_ne (pe_callB Gu.call_reprB (by rfl) B.repr (by decide +kernel) (pa_cons (pe_cmpR (Ow.op_eqO YP.ok hr_P YP.fi YP.fn YP.bd pass0) (pe_fld (pv 7) rfl) (pe_fld (pv 8) rfl) (nomark _)) pa_nil)) (pe_callB Gu.call_reprB (by rfl) B.repr (by decide +kernel) (pa_cons (pe_cmpR (op_eqD hr.units) (pe_ix ix_list (pe_call YF.ok hr_YF (by rfl) YF.df.at_ YF.df.kp YF.df.bd .nil pass0 (pa_cons (pv 5) pa_nil)) pe_int (fun _ _ => rfl)) (pe_ix ix_list (pe_call YF.ok hr_YF (by rfl) YF.df.at_ YF.df.kp YF.df.bd .nil pass0 (pa_cons (pv 6) pa_nil)) pe_int (fun _ _ => rfl)) (nomark _)) pa_nil)) (nomark _)) (pss_one (ps_ret pe_bl)) pss_nil)
        (pss_cons (ps_if (pt_cmpR (op_neD hr.units) (pe_lc (own := [("_law_value", 9)]) (g := gName 9) rfl scLaw.nd (pi_tup (pe_tup (pa_cons pe_non (pa_cons pe_bl (pa_cons pe_int (pa_cons pe_str (pa_cons (pe_tup pa_nil) (pa_cons (pe_lst pa_nil) (pa_cons (pe_makeK0 MB GBI hr_B (by rfl) T.mgB hb0 pass0 pk_nil) (pa_cons (pe_call YF.ok hr_YF (by rfl) YF.df.at_ YF.df.kp YF.df.bd .nil pass0 (pa_cons (pv 5) pa_nil)) pa_nil)))))))))) (blkOk_by (N := NL) (sc := defScope s_law) (by decide +kernel)) (fun _ _ _ _ _ => (pg_name (i := 9) scLaw.nd rfl (Or.inl rfl))) (fun _ _ _ _ _ => pts_one (pt_cmpR (r := Ow.rEqO K CS (spSEq K CS CB) E0) (Ow.op_eqO YQ.ok hr_Q YQ.fi YQ.fn YQ.bd pass0) (pv 7) (pv 9) (nomark _))) (fun _ _ _ _ _ => pv 9)) (pe_lst pa_nil) (nomark _)) (pss_one (ps_ret pe_bl)) pss_nil)
        (pss_cons (ps_if (pt_cmpR (op_neD hr.units) (pe_lc (own := [("_law_value", 9)]) (g := gName 9) rfl scLaw.nd (pi_tup (pe_tup (pa_cons pe_non (pa_cons (pe_tup pa_nil) (pa_cons (pe_makeK0 MS GSI hr_S (by rfl) U.mgS hs0 pass0 pk_nil) (pa_cons (pe_ix ix_list (pe_call YF.ok hr_YF (by rfl) YF.df.at_ YF.df.kp YF.df.bd .nil pass0 (pa_cons (pv 5) pa_nil)) pe_int (fun _ _ => rfl)) pa_nil)))))) (blkOk_by (N := NL) (sc := defScope s_law) (by decide +kernel)) (fun _ _ _ _ _ => (pg_name (i := 9) scLaw.nd rfl (Or.inl rfl))) (fun _ _ _ _ _ => pts_one (pt_cmpR (r := Ow.rEqO K CB (spBEq K CB) E0) (Ow.op_eqO YP.ok hr_P YP.fi YP.fn YP.bd pass0) (Mw.pe_fldK (K := K) (pv 7) rfl) (pv 9) (nomark _))) (fun _ _ _ _ _ => pv 9)) (pe_lst pa_nil) (nomark _)) (pss_one (ps_ret pe_bl)) pss_nil)
        (pss_cons (ps_if (pt_cmpR (Ow.op_neO YQ.ok hr_Q3 YQ.ne ZS.hm YQ.fi YQ.fn YQ.bd pass0) (pe_makeK0 MS GSI hr_S (by rfl) U.mgS hs1 pass0 (pk_cons (pe_ix ix_list (pv 5) pe_int (fun _ _ => rfl)) pk_nil)) (pe_call YS.ok hr_YS (by rfl) YS.df.at_ YS.df.kp YS.df.bd .nil pass0 (pa_cons (pe_op op_cat (pe_lst (pa_cons (pe_ix ix_list (pv 5) pe_int (fun _ _ => rfl)) pa_nil)) (pe_slice (r := rSlL K) sl_list (pv 1) (po_some pe_int) po_none)) pa_nil)) (nomark _)) (pss_one (ps_ret pe_bl)) pss_nil)
        (pss_one (ps_if (pt_cmpR (Ow.op_neO YQ.ok hr_Q3 YQ.ne ZS.hm YQ.fi YQ.fn YQ.bd pass0) (pe_makeK0 MS GSI hr_S (by rfl) U.mgS hs2 pass0 (pk_cons (pe_ix ix_list (pv 5) pe_int (fun _ _ => rfl)) (pk_cons (pe_ix ix_list (pv 5) pe_int (fun _ _ => rfl)) pk_nil))) (pe_call YS.ok hr_YS (by rfl) YS.df.at_ YS.df.kp YS.df.bd .nil pass0 (pa_cons (pe_op op_cat (pe_lst (pa_cons pe_str (pa_cons (pe_ix ix_list (pv 5) pe_int (fun _ _ => rfl)) (pa_cons (pe_ix ix_list (pv 5) pe_int (fun _ _ => rfl)) pa_nil)))) (pe_slice (r := rSlL K) sl_list (pv 1) (po_some pe_int) po_none)) pa_nil)) (nomark _)) (pss_one (ps_ret pe_bl)) pss_nil)))))))))))))))
        (pss_one (ps_ret pe_bl)))))), ?_⟩
  have hS0 := Scr0.of hS
  refine ⟨(by show 9 ≤ sizeLine; decide), fun lf nlf => ?_⟩
  have sA := put_same (o := .lst [.str "none", .bl false, .int 0, .bl false, .bl true, .str "first", .int 16, .int 16, .non]) nlf
  have tf : ToldAt K (upd H lf (.lst [.str "none", .bl false, .int 0, .bl false, .bl true, .str "first", .int 16, .int 16, .non])) lf std8 none := ⟨.non, upd_same, std8_ok, rfl⟩
  have hS1 := hS0.same sA
  generalize upd H lf _ = H1 at sA tf hS1 ⊢
  refine ⟨rfl, rfl, fun y dx nx nd ne => set_q (s := std8) (v := std5) nx nd ne std8_ok (.inl ⟨rfl, rfl⟩) fun H2 s2 sy => ⟨rfl, _, rfl, y, lf, std8, none, rfl, sy, tf.same s2, fun H3 k3 => ⟨_, rfl, iteF ⟨(by show 3 ≤ sizeLine; decide), fun u nu => ?_⟩⟩⟩⟩
  refine ⟨dW 7, dW 7, dp_w (D.dirs _), dp_w (.inl (.inl upd_same)), shaped_w _, shaped_w _, _, rfl, ?_⟩
  rw [eqv_self (shaped_w 7)]
  refine iteF ?_
  have sB := (s2.trans k3).trans (put_same (o := .tup [.str "to", .str "from", .str "both"]) nu)
  have tf2 := tf.same sB
  have hS2 := hS1.same sB
  generalize upd H3 u _ = HB at sB tf2 hS2 ⊢
  refine ⟨rfl, rfl, fun y4 dx n4 nd ne => book_q D n4 nd ne fun H4 s4 b4 => ⟨rfl, _, rfl, lf, std8, none, rfl, (tf2.same s4), fun H5 r s5 nr tr => ?_⟩⟩
  obtain ⟨_, er, _, q, rfl, dq⟩ := tr
  refine ⟨r, _, _, .ref q, rfl, rfl, SqL.of er, rfl, q, std5, rfl, dq, fun H6 y6 s6 n6 b6 => neB T ZB WB ((b4.same s5).same s6) b6 ⟨_, rfl, iteE (by simp) ?_⟩⟩
  have sC := (s4.trans s5).trans s6
  have tf3 := tf2.same sC
  have hS3 := hS2.same sC
  clear sC sB sA tf tf2 hS1 hS2 b4 b6 dq er n6 s6 s5 s4 n4 nr
  refine ⟨_, rfl, a, _, rfl, .inl hS3.sq, _, _, rfl, _, _, rfl, _, rfl, ?_⟩
  have hJ : ∀ n : Int, 0 ≤ n → n ≤ 63 → 2 ≤ (if (if n < 6 then n else 6) > 2 then (if n < 6 then n else 6) else 2) ∧ (if (if n < 6 then n else 6) > 2 then (if n < 6 then n else 6) else 2) ≤ 63 := fun n h0 h1 => by
    by_cases q : n < 6
    · rw [if_pos q]
      by_cases z : n > 2
      · rw [if_pos z]; omega
      · rw [if_neg z]; omega
    · rw [if_neg q]
      decide
  have hJ2 := hJ ((ns.map V.int).length : Int) (by omega) (by rw [List.length_map]; omega)
  generalize (if (if ((ns.map V.int).length : Int) < 6 then ((ns.map V.int).length : Int) else 6) > 2 then (if ((ns.map V.int).length : Int) < 6 then ((ns.map V.int).length : Int) else 6) else 2) = Jn at hJ2 ⊢
  obtain ⟨J0, J1⟩ := hJ2
  refine ⟨by omega, by omega, for_range (lo := 0) (n := Jn.toNat) (fun i σ H' => ∃ (v2 v3 v4 v5 v6 v7 v8 v9 : Option V), σ = [some (.ref a), some (.ref lf), v2, v3, v4, v5, v6, v7, v8, v9] ∧ Scr0 K H' a (ns.map V.int) ∧ ToldAt K H' lf std8 none) ⟨none, none, none, none, none, none, none, none, rfl, hS3, tf3⟩ ?_ ?_⟩
  rotate_left
  · rintro σ H' ⟨_, _, _, _, _, _, _, _, rfl, _⟩
    exact rfl
  rintro i σ H7 hi ⟨v2, v3, v4, v5, v6, v7, v8, v9, rfl, sc, tl⟩
  refine ⟨_, rfl, _, rfl, a, ns, _, rfl, sc.sq, hl, by omega, by omega, fun b H8 nb sb8 bg => ?_⟩
  refine ⟨6, rfl, by decide, by decide, for_range (lo := 0) (n := 6) (fun i' σ H' => ∃ (v4 v5 v6 v7 v8 v9 : Option V), σ = [some (.ref a), some (.ref lf), some (.int (0 + (i : Int))), some (.ref b), v4, v5, v6, v7, v8, v9] ∧ Scr K H' a (ns.map V.int) b ∧ ToldAt K H' lf std8 none ∧ BagS H' b) ⟨v4, v5, v6, v7, v8, v9, rfl, sc.bag nb sb8, tl.same sb8, bg⟩ ?_ ?_⟩
  rotate_left
  · rintro σ H' ⟨w4, w5, w6, w7, w8, w9, rfl, scb, tlb, _⟩
    exact ⟨_, _, _, _, _, _, _, _, rfl, scb.out, tlb⟩
  rintro j σ H9 hj ⟨w4, w5, w6, w7, w8, w9, rfl, scb, tlb, bb⟩
  refine ⟨_, rfl, b, rfl, bb, fun Ha l1 s1 o1 ba ka ta => ?_⟩
  refine ⟨_, rfl, _, rfl, b, l1, s1, o1, rfl, ba, ta, fun Hb l2 s2 o2 bb2 kb tb => ?_⟩
  have ta2 := ta.b ba kb
  have scb2 := (scb.b ka).b kb
  have tlb2 := (tlb.b bb ka).b ba kb
  refine ⟨_, rfl, l1, s1, o1, rfl, ta2, fun Hc a1 kc n1 e1 => ⟨_, rfl, l2, s2, o2, rfl, tb.same kc, fun Hd a2 kd n2 e2 => ⟨(by show 2 ≤ sizeLine; decide), fun u nu => ⟨u, _, rfl, .inl (.inl upd_same), rfl, _, _, rfl, _, _, rfl, rfl, ?_⟩⟩⟩⟩
  have ku := put_same (o := .tup [.ref a1, .ref a2]) nu
  have kall := (kc.trans kd).trans ku
  have t1 := ta2.same kall
  have t2 := (tb.same kc).same (kd.trans ku)
  have g1 := e1.same (kd.trans ku)
  have g2 := e2.same ku
  have sc3 : Scr K _ a (ns.map V.int) b := scb2.b (sb b kall)
  have tl3 := tlb2.same kall
  have b3 := bb2.mon kall
  generalize upd Hd u _ = H10 at ku kall t1 t2 g1 g2 sc3 tl3 b3 ⊢
  have fin : ∀ H', Same H10 H' → Scr K H' a (ns.map V.int) b ∧ ToldAt K H' lf std8 none ∧ BagS H' b := fun H' k' => ⟨sc3.b (sb b k'), tl3.same k', b3.mon k'⟩
  clear sc3 tl3 b3 kall ku e1 e2 nu n1 n2 kc kd ta2 scb2 tlb2 tb ta scb tlb bb ba bb2 ka kb
  -- the first test
  refine ⟨_, rfl, _, rfl, a1, l1, s1, o1, rfl, g1, t1, fun H11 k11 => ⟨_, rfl, iteF ⟨_, rfl, _, rfl, a2, l2, s2, o2, rfl, g2.same k11, t2.same k11, fun H12 k12 => ⟨_, rfl, iteF ?_⟩⟩⟩⟩
  have k1 := k11.trans k12
  refine ⟨_, rfl, _, rfl, l1, s1, o1, rfl, t1.same k1, fun H13 r3 k13 n13 f3 => ⟨r3, s1, _, rfl, f3, fun H14 a9 k14 n14 e9 => neS U ZS WS (g1.same ((k1.trans k13).trans k14)) e9 ⟨_, rfl, iteE (by simp) ?_⟩⟩⟩
  have k2 := (k1.trans k13).trans k14
  clear e9 n14 f3 n13
  -- the second
  refine ⟨_, rfl, _, rfl, eqS U ZS WS (g1.same k2) (g2.same k2) ⟨_, rfl, _, rfl, l1, s1, o1, rfl, t1.same k2, fun H15 r5 k15 n15 f5 => ⟨_, rfl, l2, s2, o2, rfl, (t2.same k2).same k15, fun H16 r6 k16 n16 f6 => ⟨_, _, (f5.same k16).dp, f6.dp, t1.shaped _, t2.shaped _, ?_⟩⟩⟩⟩
  rw [eqv9 t1.ok5 t2.ok5]
  refine ⟨_, rfl, rfl, _, rfl, iteE (by simp) ?_⟩
  have k3 := (k2.trans k15).trans k16
  clear f5 f6 n15 n16
  -- the third
  obtain ⟨d1, c1, ea1, ok1, hb1⟩ := id (g1.same k3)
  obtain ⟨d2, c2, ea2, ok2, hb2⟩ := id (g2.same k3)
  refine ⟨_, rfl, a1, CS, d1, _, _, rfl, ea1, U.cl, U.n9, st9 .., _, rfl, a2, CS, d2, _, _, rfl, ea2, U.cl, U.n9, st9 .., eqB T ZB WB hb1 hb2 ⟨_, rfl, _, rfl, l1, s1, o1, rfl, t1.same k3, fun H17 r7 k17 n17 f7 => ?_⟩⟩
  obtain ⟨_, er7, _, q7, rfl, dq7⟩ := f7
  refine ⟨r7, _, _, .ref q7, rfl, rfl, SqL.of er7, rfl, _, rfl, l2, s2, o2, rfl, (t2.same k3).same k17, fun H18 r8 k18 n18 f8 => ?_⟩
  obtain ⟨_, er8, _, q8, rfl, dq8⟩ := f8
  refine ⟨r8, _, _, .ref q8, rfl, rfl, SqL.of er8, rfl, _, _, (dq7.same k18).dp, dq8.dp, (list_ok (ok_ds5 _) (show 5 ≤ 20 by decide)).2, (list_ok (ok_ds5 _) (show 5 ≤ 20 by decide)).2, ?_⟩
  rw [eqv5 t1.ok5 t2.ok5]
  refine ⟨_, rfl, rfl, _, rfl, iteE (by simp) ?_⟩
  have k4 := (k3.trans k17).trans k18
  clear dq7 dq8 er7 er8 n17 n18 hb1 hb2 ea1 ea2
  -- the fourth
  refine ⟨(by show 0 ≤ sizeLine; decide), fun q1 m1 => ⟨(by show 0 ≤ sizeLine; decide), fun q2 m2 => ?_⟩⟩
  have j1 := put_same (o := .tup []) m1
  have j2 := put_same (o := .lst []) m2
  have p1 := j2 _ _ (upd_same (H := H18) (a := q1) (o := .tup []))
  have p2 := upd_same (H := upd H18 q1 (.tup [])) (a := q2) (o := .lst [])
  have k5 := (k4.trans j1).trans j2
  generalize upd _ q2 _ = H20 at j2 p1 p2 k5 ⊢
  refine ⟨rfl, rfl, fun y dx ny nd ne => book_q D ny nd ne fun H21 sy hy => ⟨rfl, _, rfl, l1, s1, o1, rfl, t1.same (k5.trans sy), fun H22 r9 k22 n22 f9 => ⟨(by show 8 ≤ sizeLine; decide), fun tt nt => ?_⟩⟩⟩
  have jt := put_same (o := .tup [.non, .bl true, .int 0, .str "", .ref q1, .ref q2, .ref y, .ref r9]) nt
  have et := upd_same (H := H22) (a := tt) (o := .tup [.non, .bl true, .int 0, .str "", .ref q1, .ref q2, .ref y, .ref r9])
  have k6 := ((k5.trans sy).trans k22).trans jt
  have z1 := jt _ _ (k22 _ _ (sy _ _ p1))
  have z2 := jt _ _ (k22 _ _ (sy _ _ p2))
  have z3 := (hy.same k22).same jt
  have z4 := f9.same jt
  generalize upd H22 tt _ = H23 at jt et k6 z1 z2 z3 z4 ⊢
  refine ⟨tt, rfl, ⟨_, .inl (.inl et)⟩, fun D4 nD => lc_tup (K := K) (a := tt) (xs := [.non, .bl true, .int 0, .str "", .ref q1, .ref q2, .ref y, .ref r9]) (fun i H' => Same H23 H' ∧ H' D4 = some (.lst [])) ⟨put_same nD, upd_same⟩ (fun i H' _ p => .inl (.inl (p.1 _ _ et))) (fun i x H' hx p => ?_) fun H24 p4 => ?_⟩
  · have od : Odd K CS H' x := by
      match i, hx with
      | 0, hx => cases hx; exact ⟨_, .base .non, WS.no, WS.no'⟩
      | 1, hx => cases hx; exact ⟨_, .base (.bl _), WS.bo, WS.bo'⟩
      | 2, hx => cases hx; exact ⟨_, .base (.int _), WS.it, WS.it'⟩
      | 3, hx => cases hx; exact ⟨_, .base (.str _), WS.st, WS.st'⟩
      | 4, hx => cases hx; exact ⟨_, .base (.tup (p.1 _ _ z1)), WS.tu, WS.tu'⟩
      | 5, hx => cases hx; exact ⟨_, .base (.lst (p.1 _ _ z2)), WS.li, WS.li'⟩
      | 6, hx =>
        cases hx
        obtain ⟨_, _, _, _, _, _, eb, _⟩ := z3.same p.1
        exact ⟨_, .base (.ins eb T.cl ZB.ha ZB.hn ZB.htk ZB.hm), WS.ot, WS.ot'⟩
      | 7, hx =>
        cases hx
        obtain ⟨_, er, _⟩ := z4.same p.1
        exact ⟨_, .base (.lst er), WS.li, WS.li'⟩
      | j + 8, hx => simp at hx
    exact ⟨rfl, _, rfl, _, rfl, eqSO (g1.same (k6.trans p.1)) od ⟨_, rfl, iteF p⟩⟩
  obtain ⟨s24, e24⟩ := p4
  refine ⟨(by show 0 ≤ sizeLine; decide), fun q3 m3 => ⟨.list [], .list [], .lst (SqL.of (put_same m3 _ _ e24)) .nil, .lst (SqL.of upd_same) .nil, rfl, rfl, _, rfl, iteE (by decide +kernel) ?_⟩⟩
  have k7 := (k6.trans s24).trans (put_same (o := .lst []) m3)
  clear z1 z2 z3 z4 k6 et jt f9 n22 hy p1 p2 k5 j1 j2 e24
  generalize upd H24 q3 _ = H25 at k7 ⊢
  -- the fifth
  refine ⟨(by show 0 ≤ sizeLine; decide), fun q1 m1 => ?_⟩
  have j1 := put_same (o := .tup []) m1
  have p1 := upd_same (H := H25) (a := q1) (o := .tup [])
  have k8 := k7.trans j1
  generalize upd _ q1 _ = H26 at j1 p1 k8 ⊢
  refine ⟨rfl, rfl, fun y dx ny nd ne => set_q (s := std8) (v := std5) ny nd ne std8_ok (.inl ⟨rfl, rfl⟩) fun H27 sy hy => ⟨rfl, _, rfl, l1, s1, o1, rfl, t1.same (k8.trans sy), fun H28 r9 k28 n28 f9 => ?_⟩⟩
  obtain ⟨_, er9, _, q9, rfl, dq9⟩ := f9
  refine ⟨r9, _, _, .ref q9, rfl, rfl, SqL.of er9, rfl, (by show 4 ≤ sizeLine; decide), fun tt nt => ?_⟩
  have jt := put_same (o := .tup [.non, .ref q1, .ref y, .ref q9]) nt
  have et := upd_same (H := H28) (a := tt) (o := .tup [.non, .ref q1, .ref y, .ref q9])
  have k9 := ((k8.trans sy).trans k28).trans jt
  have z1 := jt _ _ (k28 _ _ (sy _ _ p1))
  have z3 := (hy.same k28).same jt
  have z4 := dq9.same jt
  generalize upd H28 tt _ = H29 at jt et k9 z1 z3 z4 ⊢
  refine ⟨tt, rfl, ⟨_, .inl (.inl et)⟩, fun D4 nD => lc_tup (K := K) (a := tt) (xs := [.non, .ref q1, .ref y, .ref q9]) (fun i H' => Same H29 H' ∧ H' D4 = some (.lst [])) ⟨put_same nD, upd_same⟩ (fun i H' _ p => .inl (.inl (p.1 _ _ et))) (fun i x H' hx p => ?_) fun H30 p4 => ?_⟩
  · have od : Odd K CB H' x := by
      match i, hx with
      | 0, hx => cases hx; exact ⟨_, .base .non, WB.no, WB.no'⟩
      | 1, hx => cases hx; exact ⟨_, .base (.tup (p.1 _ _ z1)), WB.tu, WB.tu'⟩
      | 2, hx =>
        cases hx
        obtain ⟨_, _, eb, _⟩ := z3.same p.1
        exact ⟨_, .base (.ins eb U.cl ZS.ha ZS.hn ZS.htk ZS.hm), WB.ot, WB.ot'⟩
      | 3, hx =>
        cases hx
        obtain ⟨_, _, _, _, _, er, _⟩ := z4.same p.1
        exact ⟨_, .base (.lst er), WB.li, WB.li'⟩
      | j + 4, hx => simp at hx
    obtain ⟨d1, c1, ea1, ok1, hb1⟩ := g1.same (k9.trans p.1)
    exact ⟨rfl, _, rfl, a1, CS, d1, _, _, rfl, ea1, U.cl, U.n9, st9 .., _, rfl, eqBO hb1 od ⟨_, rfl, iteF p⟩⟩
  obtain ⟨s30, e30⟩ := p4
  refine ⟨(by show 0 ≤ sizeLine; decide), fun q3 m3 => ⟨.list [], .list [], .lst (SqL.of (put_same m3 _ _ e30)) .nil, .lst (SqL.of upd_same) .nil, rfl, rfl, _, rfl, iteE (by decide +kernel) ?_⟩⟩
  have k10 := (k9.trans s30).trans (put_same (o := .lst []) m3)
  clear z1 z3 z4 k9 et jt dq9 er9 n28 hy p1 k8 j1 e30
  generalize upd H30 q3 _ = H31 at k10 ⊢
  -- the sixth
  obtain ⟨x1, e1, ok1⟩ := (t1.same k10).flat
  refine ⟨_, rfl, l1, _, _, .str s1.copies, rfl, rfl, SqL.of e1, rfl, rfl, rfl, fun y dx ny nd ne => set_q (s := { std8 with copies := s1.copies }) (v := std5) ny nd ne { std8_ok with c := ok1.c } (.inl ⟨rfl, rfl⟩) fun H32 sy hy => ⟨rfl, _, rfl, l1, _, _, .str s1.copies, rfl, rfl, SqL.of (sy _ _ e1), rfl, (by show 1 ≤ sizeLine; decide), fun c1 n1 => ?_⟩⟩
  have i1 := put_same (o := .lst [.str s1.copies]) n1
  obtain ⟨xf, ef, _, nf⟩ := ((fin _ k10).2.1.same sy).same i1
  cases nf
  refine ⟨_, rfl, _, rfl, lf, _, rfl, SqL.of ef, fun c2 n2 => ⟨c1, c2, _, _, rfl, rfl, put_same n2 _ _ upd_same, upd_same, (by show 9 ≤ sizeLine; decide), fun c3 n3 => ?_⟩⟩
  have i2 := put_same (o := .lst (cutV (vals8 std8 ++ [.non]) (some 1) none)) n2
  have i3 := put_same (o := .lst ([V.str s1.copies] ++ cutV (vals8 std8 ++ [.non]) (some 1) none)) n3
  have i123 := (i1.trans i2).trans i3
  refine ⟨c3, { std8 with copies := s1.copies }, none, rfl, ⟨.non, upd_same, { std8_ok with c := ok1.c }, rfl⟩, fun H33 a9 k33 n33 e9 => neS U ZS WS ((hy.same i123).same k33) e9 ⟨_, rfl, iteE (by simp) ?_⟩⟩
  have k11 := ((k10.trans sy).trans i123).trans k33
  clear e9 i123 i3 i2 i1 hy e1 ef n33
  -- the seventh
  obtain ⟨x2, e2, ok2⟩ := (t1.same k11).flat
  refine ⟨_, rfl, l1, _, _, .bl s1.cached, rfl, rfl, SqL.of e2, rfl, _, rfl, l1, _, _, .int s1.batch, rfl, rfl, SqL.of e2, rfl, rfl, rfl, fun y dx ny nd ne => set_q (s := { std8 with cached := s1.cached, batch := s1.batch }) (v := std5) ny nd ne { std8_ok with b0 := ok2.b0, b1 := ok2.b1 } (.inl ⟨rfl, rfl⟩) fun H34 sy hy =>
    ⟨rfl, _, rfl, l1, _, _, .bl s1.cached, rfl, rfl, SqL.of (sy _ _ e2), rfl, _, rfl, l1, _, _, .int s1.batch, rfl, rfl, SqL.of (sy _ _ e2), rfl, (by show 3 ≤ sizeLine; decide), fun c1 n1 => ?_⟩⟩
  have i1 := put_same (o := .lst [.str "none", .bl s1.cached, .int s1.batch]) n1
  obtain ⟨xf, ef, _, nf⟩ := ((fin _ k11).2.1.same sy).same i1
  cases nf
  refine ⟨_, rfl, _, rfl, lf, _, rfl, SqL.of ef, fun c2 n2 => ⟨c1, c2, _, _, rfl, rfl, put_same n2 _ _ upd_same, upd_same, (by show 9 ≤ sizeLine; decide), fun c3 n3 => ?_⟩⟩
  have i2 := put_same (o := .lst (cutV (vals8 std8 ++ [.non]) (some 3) none)) n2
  have i3 := put_same (o := .lst ([V.str "none", .bl s1.cached, .int s1.batch] ++ cutV (vals8 std8 ++ [.non]) (some 3) none)) n3
  have i123 := (i1.trans i2).trans i3
  refine ⟨c3, { std8 with cached := s1.cached, batch := s1.batch }, none, rfl, ⟨.non, upd_same, { std8_ok with b0 := ok2.b0, b1 := ok2.b1 }, rfl⟩, fun H35 a9 k35 n35 e9 => neS U ZS WS ((hy.same i123).same k35) e9 ⟨_, rfl, iteE (by simp) ?_⟩⟩
  have k12 := ((k11.trans sy).trans i123).trans k35
  exact ⟨_, _, _, _, _, _, rfl, fin _ k12⟩
end
end Sc
namespace Sc
open PySem L2
/-! ### what the top has written, the head -/
theorem all_mk {lw : PySem.W.OpenLaw} {w : World} {K : PySem.W.Frag} {h : Heap} {mg : Str → Option Value} {fa f1 f2 f6 f7 f8 f9 f10 f11 f12 f13 f14 f15 f16 f17 f18 f19 f20 f21 f22 f30 f31 dd30 dd31 CB CS : Addr} {tq1 tq2 tq3 tq4 tq5 : Tok} {dT wT cT pT : Addr} {t_dT0 t_dT1 t_dT2 : Tok} {od_dT : Option Addr} {n_dT : Nat} {sl_dT : Array (Option Value)} {t_wT0 t_wT1 : Tok} {od_wT : Option Addr} {n_wT : Nat} {sl_wT : Array (Option Value)} {t_cT0 t_cT1 t_cT2 : Tok} {od_cT : Option Addr} {n_cT : Nat} {sl_cT : Array (Option Value)} {t_pT0 t_pT1 t_pT2 t_pT3 t_pT4 : Tok} {od_pT : Option Addr} {n_pT : Nat} {sl_pT : Array (Option Value)} (X : K.In h) (G : h.Ns mainGlobals mg) (hfa : mg "law" = some (.ref fa))
    {od1 an1 od2 an2 od6 an6 od7 an7 od8 an8 od9 an9 od10 an10 od11 an11 od12 an12 od13 an13 od14 an14 od15 an15 od16 an16 od17 an17 od18 an18 od19 an19 od20 an20 od21 an21 od22 an22 od30 an30 od31 an31 : Option Addr} {sl1 sl2 sl6 sl7 sl8 sl9 sl10 sl11 sl12 sl13 sl14 sl15 sl16 sl17 sl18 sl19 sl20 sl21 sl22 sl30 sl31 : Array (Option Value)} {oc1 kV1 dc1 pm1 cd1 ct1 oc2 kV2 dc2 pm2 cd2 ct2 oc6 kV6 dc6 pm6 cd6 ct6 oc7 kV7 dc7 pm7 cd7 ct7 oc8 kV8 dc8 pm8 cd8 ct8 oc9 kV9 dc9 pm9 cd9 ct9 oc10 kV10 dc10 pm10 cd10 ct10 oc11 kV11 dc11 pm11 cd11 ct11 oc12 kV12 dc12 pm12 cd12 ct12 oc13 kV13 dc13 pm13 cd13 ct13 oc14 kV14 dc14 pm14 cd14 ct14 oc15 kV15 dc15 pm15 cd15 ct15 oc16 kV16 dc16 pm16 cd16 ct16 oc17 kV17 dc17 pm17 cd17 ct17 oc18 kV18 dc18 pm18 cd18 ct18 oc19 kV19 dc19 pm19 cd19 ct19 oc20 kV20 dc20 pm20 cd20 ct20 oc21 kV21 dc21 pm21 cd21 ct21 oc22 kV22 dc22 pm22 cd22 ct22 oc30 dc30 pm30 cd30 ct30 oc31 dc31 pm31 cd31 ct31 : Value}
    (aCB : PySem.W.nsIn K mainGlobals "Book" = some (some (.ref CB)))
    (aCS : PySem.W.nsIn K mainGlobals "Setting" = some (some (.ref CS)))
    (a1 : PySem.W.findIn K (.ref CB) "__eq__" = some (some (.ref f1)))
    (i1 : PySem.W.isFn K (.ref f1) = true)
    (a2 : PySem.W.findIn K (.ref CS) "__eq__" = some (some (.ref f2)))
    (i2 : PySem.W.isFn K (.ref f2) = true)
    (a30 : PySem.W.findIn K (.ref CB) "__init__" = some (some (.ref f30)))
    (i30 : PySem.W.isFn K (.ref f30) = true)
    (a31 : PySem.W.findIn K (.ref CS) "__init__" = some (some (.ref f31)))
    (i31 : PySem.W.isFn K (.ref f31) = true)
    (a6 : PySem.W.nsIn K mainGlobals "integer" = some (some (.ref f6)))
    (a7 : PySem.W.nsIn K mainGlobals "whole" = some (some (.ref f7)))
    (a8 : PySem.W.nsIn K mainGlobals "_same_book" = some (some (.ref f8)))
    (a9 : PySem.W.nsIn K mainGlobals "_are_directions" = some (some (.ref f9)))
    (a10 : PySem.W.nsIn K mainGlobals "_check" = some (some (.ref f10)))
    (a11 : PySem.W.nsIn K mainGlobals "_law_bag" = some (some (.ref f11)))
    (a12 : PySem.W.nsIn K mainGlobals "_law_take" = some (some (.ref f12)))
    (a13 : PySem.W.nsIn K mainGlobals "_law_of" = some (some (.ref f13)))
    (a14 : PySem.W.nsIn K mainGlobals "_law_ways" = some (some (.ref f14)))
    (a15 : PySem.W.nsIn K mainGlobals "_law_arguments" = some (some (.ref f15)))
    (a16 : PySem.W.nsIn K mainGlobals "_law_book" = some (some (.ref f16)))
    (a17 : PySem.W.nsIn K mainGlobals "_law_setting" = some (some (.ref f17)))
    (a18 : PySem.W.nsIn K mainGlobals "_law_duties" = some (some (.ref f18)))
    (a19 : PySem.W.nsIn K mainGlobals "_law_shows" = some (some (.ref f19)))
    (a20 : PySem.W.nsIn K mainGlobals "_law_changed" = some (some (.ref f20)))
    (a21 : PySem.W.nsIn K mainGlobals "_law_full" = some (some (.ref f21)))
    (a22 : PySem.W.nsIn K mainGlobals "law" = some (some (.ref f22)))
    (l1 : K.lookup f1 = some ⟨oc1, od1, .func (PySem.W.fnOf "__eq__" "Book.__eq__" (defArgs s_Book___eq__) (defBody s_Book___eq__) (defScope s_Book___eq__) .none kV1 dc1 pm1 an1 cd1 ct1), sl1⟩)
    (c1 : PySem.W.codeIn K cd1 "Book.__eq__" = true)
    (k1 : PySem.W.keepIn K (.ref f1) = true)
    (l2 : K.lookup f2 = some ⟨oc2, od2, .func (PySem.W.fnOf "__eq__" "Setting.__eq__" (defArgs s_Setting___eq__) (defBody s_Setting___eq__) (defScope s_Setting___eq__) .none kV2 dc2 pm2 an2 cd2 ct2), sl2⟩)
    (c2 : PySem.W.codeIn K cd2 "Setting.__eq__" = true)
    (k2 : PySem.W.keepIn K (.ref f2) = true)
    (l6 : K.lookup f6 = some ⟨oc6, od6, .func (PySem.W.fnOf "integer" "integer" (defArgs s_integer) (defBody s_integer) (defScope s_integer) .none kV6 dc6 pm6 an6 cd6 ct6), sl6⟩)
    (c6 : PySem.W.codeIn K cd6 "integer" = true)
    (k6 : PySem.W.keepIn K (.ref f6) = true)
    (l7 : K.lookup f7 = some ⟨oc7, od7, .func (PySem.W.fnOf "whole" "whole" (defArgs s_whole) (defBody s_whole) (defScope s_whole) .none kV7 dc7 pm7 an7 cd7 ct7), sl7⟩)
    (c7 : PySem.W.codeIn K cd7 "whole" = true)
    (k7 : PySem.W.keepIn K (.ref f7) = true)
    (l8 : K.lookup f8 = some ⟨oc8, od8, .func (PySem.W.fnOf "_same_book" "_same_book" (defArgs s__same_book) (defBody s__same_book) (defScope s__same_book) .none kV8 dc8 pm8 an8 cd8 ct8), sl8⟩)
    (c8 : PySem.W.codeIn K cd8 "_same_book" = true)
    (k8 : PySem.W.keepIn K (.ref f8) = true)
    (l9 : K.lookup f9 = some ⟨oc9, od9, .func (PySem.W.fnOf "_are_directions" "_are_directions" (defArgs s__are_directions) (defBody s__are_directions) (defScope s__are_directions) .none kV9 dc9 pm9 an9 cd9 ct9), sl9⟩)
    (c9 : PySem.W.codeIn K cd9 "_are_directions" = true)
    (k9 : PySem.W.keepIn K (.ref f9) = true)
    (l10 : K.lookup f10 = some ⟨oc10, od10, .func (PySem.W.fnOf "_check" "_check" (defArgs s__check) (defBody s__check) (defScope s__check) .none kV10 dc10 pm10 an10 cd10 ct10), sl10⟩)
    (c10 : PySem.W.codeIn K cd10 "_check" = true)
    (k10 : PySem.W.keepIn K (.ref f10) = true)
    (l11 : K.lookup f11 = some ⟨oc11, od11, .func (PySem.W.fnOf "_law_bag" "_law_bag" (defArgs s__law_bag) (defBody s__law_bag) (defScope s__law_bag) .none kV11 dc11 pm11 an11 cd11 ct11), sl11⟩)
    (c11 : PySem.W.codeIn K cd11 "_law_bag" = true)
    (k11 : PySem.W.keepIn K (.ref f11) = true)
    (l12 : K.lookup f12 = some ⟨oc12, od12, .func (PySem.W.fnOf "_law_take" "_law_take" (defArgs s__law_take) (defBody s__law_take) (defScope s__law_take) .none kV12 dc12 pm12 an12 cd12 ct12), sl12⟩)
    (c12 : PySem.W.codeIn K cd12 "_law_take" = true)
    (k12 : PySem.W.keepIn K (.ref f12) = true)
    (l13 : K.lookup f13 = some ⟨oc13, od13, .func (PySem.W.fnOf "_law_of" "_law_of" (defArgs s__law_of) (defBody s__law_of) (defScope s__law_of) .none kV13 dc13 pm13 an13 cd13 ct13), sl13⟩)
    (c13 : PySem.W.codeIn K cd13 "_law_of" = true)
    (k13 : PySem.W.keepIn K (.ref f13) = true)
    (l14 : K.lookup f14 = some ⟨oc14, od14, .func (PySem.W.fnOf "_law_ways" "_law_ways" (defArgs s__law_ways) (defBody s__law_ways) (defScope s__law_ways) .none kV14 dc14 pm14 an14 cd14 ct14), sl14⟩)
    (c14 : PySem.W.codeIn K cd14 "_law_ways" = true)
    (k14 : PySem.W.keepIn K (.ref f14) = true)
    (l15 : K.lookup f15 = some ⟨oc15, od15, .func (PySem.W.fnOf "_law_arguments" "_law_arguments" (defArgs s__law_arguments) (defBody s__law_arguments) (defScope s__law_arguments) .none kV15 dc15 pm15 an15 cd15 ct15), sl15⟩)
    (c15 : PySem.W.codeIn K cd15 "_law_arguments" = true)
    (k15 : PySem.W.keepIn K (.ref f15) = true)
    (l16 : K.lookup f16 = some ⟨oc16, od16, .func (PySem.W.fnOf "_law_book" "_law_book" (defArgs s__law_book) (defBody s__law_book) (defScope s__law_book) .none kV16 dc16 pm16 an16 cd16 ct16), sl16⟩)
    (c16 : PySem.W.codeIn K cd16 "_law_book" = true)
    (k16 : PySem.W.keepIn K (.ref f16) = true)
    (l17 : K.lookup f17 = some ⟨oc17, od17, .func (PySem.W.fnOf "_law_setting" "_law_setting" (defArgs s__law_setting) (defBody s__law_setting) (defScope s__law_setting) .none kV17 dc17 pm17 an17 cd17 ct17), sl17⟩)
    (c17 : PySem.W.codeIn K cd17 "_law_setting" = true)
    (k17 : PySem.W.keepIn K (.ref f17) = true)
    (l18 : K.lookup f18 = some ⟨oc18, od18, .func (PySem.W.fnOf "_law_duties" "_law_duties" (defArgs s__law_duties) (defBody s__law_duties) (defScope s__law_duties) .none kV18 dc18 pm18 an18 cd18 ct18), sl18⟩)
    (c18 : PySem.W.codeIn K cd18 "_law_duties" = true)
    (k18 : PySem.W.keepIn K (.ref f18) = true)
    (l19 : K.lookup f19 = some ⟨oc19, od19, .func (PySem.W.fnOf "_law_shows" "_law_shows" (defArgs s__law_shows) (defBody s__law_shows) (defScope s__law_shows) .none kV19 dc19 pm19 an19 cd19 ct19), sl19⟩)
    (c19 : PySem.W.codeIn K cd19 "_law_shows" = true)
    (k19 : PySem.W.keepIn K (.ref f19) = true)
    (l20 : K.lookup f20 = some ⟨oc20, od20, .func (PySem.W.fnOf "_law_changed" "_law_changed" (defArgs s__law_changed) (defBody s__law_changed) (defScope s__law_changed) .none kV20 dc20 pm20 an20 cd20 ct20), sl20⟩)
    (c20 : PySem.W.codeIn K cd20 "_law_changed" = true)
    (k20 : PySem.W.keepIn K (.ref f20) = true)
    (l21 : K.lookup f21 = some ⟨oc21, od21, .func (PySem.W.fnOf "_law_full" "_law_full" (defArgs s__law_full) (defBody s__law_full) (defScope s__law_full) .none kV21 dc21 pm21 an21 cd21 ct21), sl21⟩)
    (c21 : PySem.W.codeIn K cd21 "_law_full" = true)
    (k21 : PySem.W.keepIn K (.ref f21) = true)
    (l22 : K.lookup f22 = some ⟨oc22, od22, .func (PySem.W.fnOf "law" "law" (defArgs s_law) (defBody s_law) (defScope s_law) .none kV22 dc22 pm22 an22 cd22 ct22), sl22⟩)
    (c22 : PySem.W.codeIn K cd22 "law" = true)
    (k22 : PySem.W.keepIn K (.ref f22) = true)
    (l30 : K.lookup f30 = some ⟨oc30, od30, .func (PySem.W.fnOf "__init__" "Book.__init__" (defArgs s_Book___init__) (defBody s_Book___init__) (defScope s_Book___init__) .none (.ref dd30) dc30 pm30 an30 cd30 ct30), sl30⟩)
    (c30 : PySem.W.codeIn K cd30 "Book.__init__" = true)
    (k30 : PySem.W.keepIn K (.ref f30) = true)
    (d30_0 : PySem.W.nsIn K dd30 "cleaned" = some (some (.ref dT)))
    (d30_1 : PySem.W.nsIn K dd30 "dropped" = some (some (.ref wT)))
    (d30_2 : PySem.W.nsIn K dd30 "bind_copied" = some (some (.ref dT)))
    (d30_3 : PySem.W.nsIn K dd30 "give_copied" = some (some (.ref dT)))
    (d30_4 : PySem.W.nsIn K dd30 "take_copied" = some (some (.ref wT)))
    (l31 : K.lookup f31 = some ⟨oc31, od31, .func (PySem.W.fnOf "__init__" "Setting.__init__" (defArgs s_Setting___init__) (defBody s_Setting___init__) (defScope s_Setting___init__) .none (.ref dd31) dc31 pm31 an31 cd31 ct31), sl31⟩)
    (c31 : PySem.W.codeIn K cd31 "Setting.__init__" = true)
    (k31 : PySem.W.keepIn K (.ref f31) = true)
    (d31_0 : PySem.W.nsIn K dd31 "copies" = some (some (.str "none" tq1)))
    (d31_1 : PySem.W.nsIn K dd31 "cached" = some (some (.bool false)))
    (d31_2 : PySem.W.nsIn K dd31 "batch" = some (some (.int 0 tq2)))
    (d31_3 : PySem.W.nsIn K dd31 "early" = some (some (.bool false)))
    (d31_4 : PySem.W.nsIn K dd31 "drain" = some (some (.bool true)))
    (d31_5 : PySem.W.nsIn K dd31 "policy" = some (some (.str "first" tq3)))
    (d31_6 : PySem.W.nsIn K dd31 "groups" = some (some (.int 16 tq4)))
    (d31_7 : PySem.W.nsIn K dd31 "tables" = some (some (.int 16 tq5)))
    (d31_8 : PySem.W.nsIn K dd31 "book" = some (some (.none)))
    (bpg : PySem.W.plainGet K CB Str.empty = true)
    (bhd : PySem.W.hasDictIn K CB = true)
    (bpo : PySem.W.plainOver K CB = true)
    (bsa : PySem.W.findIn K (.ref CB) "__setattr__" = some (some (.builtin "object.__setattr__")))
    (bmk : PySem.W.makesIn K CB = true)
    (bkc : PySem.W.keepIn K (.ref CB) = true)
    (bn1 : PySem.W.findIn K (.ref CB) "cleaned" = some none)
    (bn2 : PySem.W.findIn K (.ref CB) "dropped" = some none)
    (bn3 : PySem.W.findIn K (.ref CB) "bind_copied" = some none)
    (bn4 : PySem.W.findIn K (.ref CB) "give_copied" = some none)
    (bn5 : PySem.W.findIn K (.ref CB) "take_copied" = some none)
    (be1 : PySem.W.findIn K (.ref CB) "__class__" = some (some (.builtin "object.__class__")))
    (be4 : PySem.W.mroIn K CB (.type "object") = some true)
    (be5 : PySem.W.kitOne K (.ref CB) (.type "int") = some false)
    (bne : PySem.W.findIn K (.ref CB) "__ne__" = some (some (.builtin "object.__ne__")))
    (spg : PySem.W.plainGet K CS Str.empty = true)
    (shd : PySem.W.hasDictIn K CS = true)
    (spo : PySem.W.plainOver K CS = true)
    (ssa : PySem.W.findIn K (.ref CS) "__setattr__" = some (some (.builtin "object.__setattr__")))
    (smk : PySem.W.makesIn K CS = true)
    (skc : PySem.W.keepIn K (.ref CS) = true)
    (sn1 : PySem.W.findIn K (.ref CS) "copies" = some none)
    (sn2 : PySem.W.findIn K (.ref CS) "cached" = some none)
    (sn3 : PySem.W.findIn K (.ref CS) "batch" = some none)
    (sn4 : PySem.W.findIn K (.ref CS) "early" = some none)
    (sn5 : PySem.W.findIn K (.ref CS) "drain" = some none)
    (sn6 : PySem.W.findIn K (.ref CS) "policy" = some none)
    (sn7 : PySem.W.findIn K (.ref CS) "groups" = some none)
    (sn8 : PySem.W.findIn K (.ref CS) "tables" = some none)
    (sn9 : PySem.W.findIn K (.ref CS) "book" = some none)
    (se1 : PySem.W.findIn K (.ref CS) "__class__" = some (some (.builtin "object.__class__")))
    (se4 : PySem.W.mroIn K CS (.type "object") = some true)
    (se5 : PySem.W.kitOne K (.ref CS) (.type "int") = some false)
    (sne : PySem.W.findIn K (.ref CS) "__ne__" = some (some (.builtin "object.__ne__")))
    (e2 : PySem.W.specialIn K (.builtin "object.__class__") "__get__" = some (some (.builtin "getset_descriptor.__get__")))
    (e3 : PySem.W.takesIn K (.builtin "object.__class__") = some true)
    (sx_NoneType : PySem.W.kitOne K (.type "NoneType") (.ref CS) = some false)
    (sx_bool : PySem.W.kitOne K (.type "bool") (.ref CS) = some false)
    (sx_int : PySem.W.kitOne K (.type "int") (.ref CS) = some false)
    (sx_str : PySem.W.kitOne K (.type "str") (.ref CS) = some false)
    (sx_tuple : PySem.W.kitOne K (.type "tuple") (.ref CS) = some false)
    (sx_list : PySem.W.kitOne K (.type "list") (.ref CS) = some false)
    (sxo : PySem.W.kitOne K (.ref CB) (.ref CS) = some false)
    (sy_NoneType : PySem.W.notFirst K CS (.type "NoneType") = true)
    (sy_bool : PySem.W.notFirst K CS (.type "bool") = true)
    (sy_int : PySem.W.notFirst K CS (.type "int") = true)
    (sy_str : PySem.W.notFirst K CS (.type "str") = true)
    (sy_tuple : PySem.W.notFirst K CS (.type "tuple") = true)
    (sy_list : PySem.W.notFirst K CS (.type "list") = true)
    (syo : PySem.W.notFirst K CS (.ref CB) = true)
    (sym : PySem.W.notFirst K CS (.ref CS) = true)
    (bx_NoneType : PySem.W.kitOne K (.type "NoneType") (.ref CB) = some false)
    (bx_bool : PySem.W.kitOne K (.type "bool") (.ref CB) = some false)
    (bx_int : PySem.W.kitOne K (.type "int") (.ref CB) = some false)
    (bx_str : PySem.W.kitOne K (.type "str") (.ref CB) = some false)
    (bx_tuple : PySem.W.kitOne K (.type "tuple") (.ref CB) = some false)
    (bx_list : PySem.W.kitOne K (.type "list") (.ref CB) = some false)
    (bxo : PySem.W.kitOne K (.ref CS) (.ref CB) = some false)
    (by_NoneType : PySem.W.notFirst K CB (.type "NoneType") = true)
    (by_bool : PySem.W.notFirst K CB (.type "bool") = true)
    (by_int : PySem.W.notFirst K CB (.type "int") = true)
    (by_str : PySem.W.notFirst K CB (.type "str") = true)
    (by_tuple : PySem.W.notFirst K CB (.type "tuple") = true)
    (by_list : PySem.W.notFirst K CB (.type "list") = true)
    (byo : PySem.W.notFirst K CB (.ref CS) = true)
    (bym : PySem.W.notFirst K CB (.ref CB) = true)
    (g_dT : PySem.W.nsIn K mainGlobals "DIRECTIONS" = some (some (.ref dT)))
    (q_dT : K.lookup dT = some ⟨.type "tuple", od_dT, .seq #[.str "to" t_dT0, .str "from" t_dT1, .str "both" t_dT2] n_dT, sl_dT⟩)
    (g_wT : PySem.W.nsIn K mainGlobals "WRITING" = some (some (.ref wT)))
    (q_wT : K.lookup wT = some ⟨.type "tuple", od_wT, .seq #[.str "from" t_wT0, .str "both" t_wT1] n_wT, sl_wT⟩)
    (g_cT : PySem.W.nsIn K mainGlobals "_COPIES" = some (some (.ref cT)))
    (q_cT : K.lookup cT = some ⟨.type "tuple", od_cT, .seq #[.str "none" t_cT0, .str "ends" t_cT1, .str "all" t_cT2] n_cT, sl_cT⟩)
    (g_pT : PySem.W.nsIn K mainGlobals "POLICIES" = some (some (.ref pT)))
    (q_pT : K.lookup pT = some ⟨.type "tuple", od_pT, .seq #[.str "first" t_pT0, .str "best" t_pT1, .str "worst" t_pT2, .str "next" t_pT3, .str "halves" t_pT4] n_pT, sl_pT⟩)
    (z_len : PySem.W.nsIn K mainGlobals "len" = some none)
    (z_abs : PySem.W.nsIn K mainGlobals "abs" = some none)
    (z_enumerate : PySem.W.nsIn K mainGlobals "enumerate" = some none)
    (z_range : PySem.W.nsIn K mainGlobals "range" = some none)
    (z_min : PySem.W.nsIn K mainGlobals "min" = some none)
    (z_max : PySem.W.nsIn K mainGlobals "max" = some none)
    (z_isinstance : PySem.W.nsIn K mainGlobals "isinstance" = some none)
    (z_int : PySem.W.nsIn K mainGlobals "int" = some none)
    (z_bool : PySem.W.nsIn K mainGlobals "bool" = some none)
    (z_tuple : PySem.W.nsIn K mainGlobals "tuple" = some none)
    (z_repr : PySem.W.nsIn K mainGlobals "repr" = some none) :
    Tp.TopOk lw.prog w K mg fa 63 := by
  have e := hfa.symm.trans (PySem.W.mg_of X G a22)
  cases e
  have F1 := fun_mk (st := s_Book___eq__) l1 c1 k1
  have b1 := F1.binds (ps := ["self", "other"]) fun _ _ _ _ _ _ us hl => match us, hl with | [_, _], _ => rfl
  have F2 := fun_mk (st := s_Setting___eq__) l2 c2 k2
  have b2 := F2.binds (ps := ["self", "other"]) fun _ _ _ _ _ _ us hl => match us, hl with | [_, _], _ => rfl
  have F6 := fun_mk (st := s_integer) l6 c6 k6
  have b6 := F6.binds (ps := ["value"]) fun _ _ _ _ _ _ us hl => match us, hl with | [_], _ => rfl
  have F7 := fun_mk (st := s_whole) l7 c7 k7
  have b7 := F7.binds (ps := ["value", "least", "most"]) fun _ _ _ _ _ _ us hl => match us, hl with | [_, _, _], _ => rfl
  have F8 := fun_mk (st := s__same_book) l8 c8 k8
  have b8 := F8.binds (ps := ["book"]) fun _ _ _ _ _ _ us hl => match us, hl with | [_], _ => rfl
  have F9 := fun_mk (st := s__are_directions) l9 c9 k9
  have b9 := F9.binds (ps := ["value"]) fun _ _ _ _ _ _ us hl => match us, hl with | [_], _ => rfl
  have F10 := fun_mk (st := s__check) l10 c10 k10
  have b10 := F10.binds (ps := ["fields"]) fun _ _ _ _ _ _ us hl => match us, hl with | [_], _ => rfl
  have F11 := fun_mk (st := s__law_bag) l11 c11 k11
  have b11 := F11.binds (ps := ["_law_script", "_law_at"]) fun _ _ _ _ _ _ us hl => match us, hl with | [_, _], _ => rfl
  have F12 := fun_mk (st := s__law_take) l12 c12 k12
  have b12 := F12.binds (ps := ["_law_bag_here", "_law_many"]) fun _ _ _ _ _ _ us hl => match us, hl with | [_, _], _ => rfl
  have F13 := fun_mk (st := s__law_of) l13 c13 k13
  have b13 := F13.binds (ps := ["_law_bag_here", "_law_some"]) fun _ _ _ _ _ _ us hl => match us, hl with | [_, _], _ => rfl
  have F14 := fun_mk (st := s__law_ways) l14 c14 k14
  have b14 := F14.binds (ps := ["_law_number"]) fun _ _ _ _ _ _ us hl => match us, hl with | [_], _ => rfl
  have F15 := fun_mk (st := s__law_arguments) l15 c15 k15
  have b15 := F15.binds (ps := ["_law_bag_here"]) fun _ _ _ _ _ _ us hl => match us, hl with | [_], _ => rfl
  have F16 := fun_mk (st := s__law_book) l16 c16 k16
  have b16 := F16.binds (ps := ["_law_duties_here"]) fun _ _ _ _ _ _ us hl => match us, hl with | [_], _ => rfl
  have F17 := fun_mk (st := s__law_setting) l17 c17 k17
  have b17 := F17.binds (ps := ["_law_told"]) fun _ _ _ _ _ _ us hl => match us, hl with | [_], _ => rfl
  have F18 := fun_mk (st := s__law_duties) l18 c18 k18
  have b18 := F18.binds (ps := ["_law_some"]) fun _ _ _ _ _ _ us hl => match us, hl with | [_], _ => rfl
  have F19 := fun_mk (st := s__law_shows) l19 c19 k19
  have b19 := F19.binds (ps := ["_law_one", "_law_told"]) fun _ _ _ _ _ _ us hl => match us, hl with | [_, _], _ => rfl
  have F20 := fun_mk (st := s__law_changed) l20 c20 k20
  have b20 := F20.binds (ps := ["_law_bag_here", "_law_told"]) fun _ _ _ _ _ _ us hl => match us, hl with | [_, _], _ => rfl
  have F21 := fun_mk (st := s__law_full) l21 c21 k21
  have b21 := F21.binds (ps := ["_law_told"]) fun _ _ _ _ _ _ us hl => match us, hl with | [_], _ => rfl
  have F22 := fun_mk (st := s_law) l22 c22 k22
  have F30 : FunD K "__init__" "Book.__init__" (defArgs s_Book___init__) (defBody s_Book___init__) (defScope s_Book___init__) [] [("cleaned", .ref dT), ("dropped", .ref wT), ("bind_copied", .ref dT), ("give_copied", .ref dT), ("take_copied", .ref wT)] f30 _ := ⟨⟨_, _, _, _, _, _, _, _, _, _, rfl, l30, c30, .inl ⟨rfl, rfl⟩, .inr ⟨dd30, rfl, fun q hq => by
      simp only [List.mem_cons, List.not_mem_nil, or_false] at hq
      rcases hq with rfl | rfl | rfl | rfl | rfl
      · exact ⟨_, d30_0, by first | rfl | exact ⟨_, rfl⟩⟩
      · exact ⟨_, d30_1, by first | rfl | exact ⟨_, rfl⟩⟩
      · exact ⟨_, d30_2, by first | rfl | exact ⟨_, rfl⟩⟩
      · exact ⟨_, d30_3, by first | rfl | exact ⟨_, rfl⟩⟩
      · exact ⟨_, d30_4, by first | rfl | exact ⟨_, rfl⟩⟩
    ⟩⟩, k30⟩
  have F31 : FunD K "__init__" "Setting.__init__" (defArgs s_Setting___init__) (defBody s_Setting___init__) (defScope s_Setting___init__) [] [("copies", .str "none"), ("cached", .bl false), ("batch", .int 0), ("early", .bl false), ("drain", .bl true), ("policy", .str "first"), ("groups", .int 16), ("tables", .int 16), ("book", .non)] f31 _ := ⟨⟨_, _, _, _, _, _, _, _, _, _, rfl, l31, c31, .inl ⟨rfl, rfl⟩, .inr ⟨dd31, rfl, fun q hq => by
      simp only [List.mem_cons, List.not_mem_nil, or_false] at hq
      rcases hq with rfl | rfl | rfl | rfl | rfl | rfl | rfl | rfl | rfl
      · exact ⟨_, d31_0, by first | rfl | exact ⟨_, rfl⟩⟩
      · exact ⟨_, d31_1, by first | rfl | exact ⟨_, rfl⟩⟩
      · exact ⟨_, d31_2, by first | rfl | exact ⟨_, rfl⟩⟩
      · exact ⟨_, d31_3, by first | rfl | exact ⟨_, rfl⟩⟩
      · exact ⟨_, d31_4, by first | rfl | exact ⟨_, rfl⟩⟩
      · exact ⟨_, d31_5, by first | rfl | exact ⟨_, rfl⟩⟩
      · exact ⟨_, d31_6, by first | rfl | exact ⟨_, rfl⟩⟩
      · exact ⟨_, d31_7, by first | rfl | exact ⟨_, rfl⟩⟩
      · exact ⟨_, d31_8, by first | rfl | exact ⟨_, rfl⟩⟩
    ⟩⟩, k31⟩
  have D6 : Def K mg "integer" f6 _ ["value"] := ⟨PySem.W.mg_of X G a6, k6, b6⟩
  have D7 : Def K mg "whole" f7 _ ["value", "least", "most"] := ⟨PySem.W.mg_of X G a7, k7, b7⟩
  have D8 : Def K mg "_same_book" f8 _ ["book"] := ⟨PySem.W.mg_of X G a8, k8, b8⟩
  have D9 : Def K mg "_are_directions" f9 _ ["value"] := ⟨PySem.W.mg_of X G a9, k9, b9⟩
  have D10 : Def K mg "_check" f10 _ ["fields"] := ⟨PySem.W.mg_of X G a10, k10, b10⟩
  have D11 : Def K mg "_law_bag" f11 _ ["_law_script", "_law_at"] := ⟨PySem.W.mg_of X G a11, k11, b11⟩
  have D12 : Def K mg "_law_take" f12 _ ["_law_bag_here", "_law_many"] := ⟨PySem.W.mg_of X G a12, k12, b12⟩
  have D13 : Def K mg "_law_of" f13 _ ["_law_bag_here", "_law_some"] := ⟨PySem.W.mg_of X G a13, k13, b13⟩
  have D14 : Def K mg "_law_ways" f14 _ ["_law_number"] := ⟨PySem.W.mg_of X G a14, k14, b14⟩
  have D15 : Def K mg "_law_arguments" f15 _ ["_law_bag_here"] := ⟨PySem.W.mg_of X G a15, k15, b15⟩
  have D16 : Def K mg "_law_book" f16 _ ["_law_duties_here"] := ⟨PySem.W.mg_of X G a16, k16, b16⟩
  have D17 : Def K mg "_law_setting" f17 _ ["_law_told"] := ⟨PySem.W.mg_of X G a17, k17, b17⟩
  have D18 : Def K mg "_law_duties" f18 _ ["_law_some"] := ⟨PySem.W.mg_of X G a18, k18, b18⟩
  have D19 : Def K mg "_law_shows" f19 _ ["_law_one", "_law_told"] := ⟨PySem.W.mg_of X G a19, k19, b19⟩
  have D20 : Def K mg "_law_changed" f20 _ ["_law_bag_here", "_law_told"] := ⟨PySem.W.mg_of X G a20, k20, b20⟩
  have D21 : Def K mg "_law_full" f21 _ ["_law_told"] := ⟨PySem.W.mg_of X G a21, k21, b21⟩
  intro base s H a ns' hn _ _ e0 hS
  have B : TB mg := ⟨PySem.W.mg_none_of X G z_len, PySem.W.mg_none_of X G z_abs, PySem.W.mg_none_of X G z_enumerate, PySem.W.mg_none_of X G z_range, PySem.W.mg_none_of X G z_min, PySem.W.mg_none_of X G z_max, PySem.W.mg_none_of X G z_isinstance, PySem.W.mg_none_of X G z_int, PySem.W.mg_none_of X G z_bool, PySem.W.mg_none_of X G z_tuple, PySem.W.mg_none_of X G z_repr⟩
  have NBb : NB mg := ⟨PySem.W.mg_none_of X G z_isinstance, PySem.W.mg_none_of X G z_int, PySem.W.mg_none_of X G z_bool, PySem.W.mg_none_of X G z_tuple⟩
  have T : TBk K mg CB := ⟨⟨bpg, bhd, bpo, bsa⟩, bn1, bn2, bn3, bn4, bn5, PySem.W.mg_of X G aCB⟩
  have U : TSt K mg CS := ⟨⟨spg, shd, spo, ssa⟩, sn1, sn2, sn3, sn4, sn5, sn6, sn7, sn8, sn9, PySem.W.mg_of X G aCS⟩
  have ZB : IsR K CB := ⟨be1, e2, e3, be4, be5⟩
  have ZS : IsR K CS := ⟨se1, e2, e3, se4, se5⟩
  have WS : Kt K CS CB := ⟨sx_NoneType, sx_bool, sx_int, sx_str, sx_tuple, sx_list, sxo, sy_NoneType, sy_bool, sy_int, sy_str, sy_tuple, sy_list, syo, sym⟩
  have WB : Kt K CB CS := ⟨bx_NoneType, bx_bool, bx_int, bx_str, bx_tuple, bx_list, bxo, by_NoneType, by_bool, by_int, by_str, by_tuple, by_list, byo, bym⟩
  have D : DirAt K mg dT wT cT pT := ⟨PySem.W.mg_of X G g_dT, fun H => .inr ⟨_, _, _, q_dT, rfl, rfl, (by show 3 ≤ sizeLine; decide), (.cons ⟨_, rfl⟩ (.cons ⟨_, rfl⟩ (.cons ⟨_, rfl⟩ .nil)))⟩, PySem.W.mg_of X G g_wT, fun H => .inr ⟨_, _, _, q_wT, rfl, rfl, (by show 2 ≤ sizeLine; decide), (.cons ⟨_, rfl⟩ (.cons ⟨_, rfl⟩ .nil))⟩, PySem.W.mg_of X G g_cT, fun H => .inr ⟨_, _, _, q_cT, rfl, rfl, (by show 3 ≤ sizeLine; decide), (.cons ⟨_, rfl⟩ (.cons ⟨_, rfl⟩ (.cons ⟨_, rfl⟩ .nil)))⟩, PySem.W.mg_of X G g_pT, fun H => .inr ⟨_, _, _, q_pT, rfl, rfl, (by show 5 ≤ sizeLine; decide), (.cons ⟨_, rfl⟩ (.cons ⟨_, rfl⟩ (.cons ⟨_, rfl⟩ (.cons ⟨_, rfl⟩ (.cons ⟨_, rfl⟩ .nil)))))⟩⟩
  have MB : Mk K CB f30 := ⟨bmk, a30, i30, bkc⟩
  have MS : Mk K CS f31 := ⟨smk, a31, i31, skc⟩
  have FBI : FB K dT wT f30 _ := F30
  have FSI : FSt K f31 _ := F31
  have GI : FnOk lw.prog w K mg base CX0 1 f6 _ ["value"] (spInteger K) := ok_integer F6 NBb
  have GW : FnOk lw.prog w K mg base CX0 2 f7 _ ["value", "least", "most"] (spWhole K) := ok_whole F7 GI D6
  have GD : FnOk lw.prog w K mg base CX0 1 f9 _ ["value"] (spDirs K) := ok_dirs F9 (PySem.W.mg_none_of X G z_isinstance) (PySem.W.mg_none_of X G z_tuple) D
  have GC : FnOk lw.prog w K mg base CX0 1 f10 _ ["fields"] spCheck := ok_check F10
  have GBI : FnOk lw.prog w K mg base CX0 2 f30 _ NBk (spBInit K CB) := ok_binit F30 T GD D9 GC D10
  have GSa : FnOk lw.prog w K mg base CX0 4 f8 _ ["book"] (spSame K CB) := ok_same F8 T MB GBI FBI
  have GSI : FnOk lw.prog w K mg base CX0 5 f31 _ NSt (spStInit K CS CB) := ok_stinit F31 U T ZB (PySem.W.mg_none_of X G z_isinstance) (PySem.W.mg_none_of X G z_bool) D GC D10 GW D7 GSa D8 MB GBI FBI
  have GBE : FnOk lw.prog w K mg base CX0 1 f1 _ ["self", "other"] (spBEq K CB) := ok_beq F1 T ZB (PySem.W.mg_none_of X G z_isinstance)
  have GSE : FnOk lw.prog w K mg base CX0 2 f2 _ ["self", "other"] (spSEq K CS CB) := ok_seq F2 U ZS T ZB (PySem.W.mg_none_of X G z_isinstance) GBE a1 i1 b1 bym
  have GT : FnOk lw.prog w K mg base CX0 1 f12 _ ["_law_bag_here", "_law_many"] spTake2 := ok_take2 F12
  have GO : FnOk lw.prog w K mg base CX0 2 f13 _ ["_law_bag_here", "_law_some"] spOf := ok_of F13 B GT D12
  have GWa : FnOk lw.prog w K mg base CX0 1 f14 _ ["_law_number"] spWays := ok_ways F14 B
  have GA : FnOk lw.prog w K mg base CX0 3 f15 _ ["_law_bag_here"] (spArgs K) := ok_args F15 B GT D12 GO D13 GWa D14
  have GLB : FnOk lw.prog w K mg base CX0 4 f16 _ ["_law_duties_here"] (spLBook K CB) := ok_lbook F16 T MB GBI FBI
  have GLD : FnOk lw.prog w K mg base CX0 1 f18 _ ["_law_some"] (spLDut K CB) := ok_ldut F18 T
  exact ok_law l22 c22 (fun s v => .of_eq rfl) B U ZS WS T ZB WB D ⟨ok_bag2 F11 (PySem.W.mg_none_of X G z_len) (PySem.W.mg_none_of X G z_abs) (PySem.W.mg_none_of X G z_enumerate), D11⟩ ⟨GA, D15⟩ ⟨ok_lch F20 GT D12 GA D15, D20⟩
    ⟨ok_lset F17 U MS GSI FSI GLB D16, D17⟩ ⟨ok_lfull F21 GWa D14, D21⟩ ⟨GLB, D16⟩ (ok_lsh F19 U T ZB B GLD D18) D19 ⟨GSE, a2, i2, b2, sne⟩ ⟨GBE, a1, i1, b1, bne⟩ MS GSI FSI MB GBI FBI hn e0 hS
theorem walk {l : PySem.W.OpenLaw} {q : Program} {loose : List Str} {XP : (Str → Option Value) → Heap → Prop} {YP : World → Heap → Prop} {d : DefRec} {K : Params → PySem.W.Frag} (hn : l.most = some 63) (hdf : d.params.defaults = [])
    (hY : ∀ (w : World) (h : Heap), YP w h → (K w.params).In h)
    (F : ∀ (w : World) (mg : Str → Option Value) (fa : Addr) (h : Heap), (K w.params).In h → h.Ns mainGlobals mg → mg d.name = some (.ref fa) → Tp.TopOk l.prog w (K w.params) mg fa 63) :
    PySem.W.WalkO q loose XP YP l.row.toRowW d [] (fun f vs => PySem.call f vs) := Tp.walk_top (n := 63) hn (by decide) hdf hY F
end Sc

open PySem PySem.W PyProof.Rows
set_option maxRecDepth 100000 in
set_option maxHeartbeats 0 in
theorem PySem.Challenge.cw_devicewindows_k19_books_and_settings_mad_holds : PySem.Challenge.rw_devicewindows_k19_books_and_settings_mad.Holds := by
  w_on; o_law; k_head; (case hw => w_witness2)
  k_fill
  refine Sc.walk (l := PySem.Challenge.rw_devicewindows_k19_books_and_settings_mad) rfl rfl (fun w h Y => by first | exact PySem.W.kIn_of Y | exact PySem.W.km_in_of Y) ?F
  case F =>
    intro w mg fa h KX G hmg
    refine' Sc.all_mk KX G hmg ?aCB ?aCS ?a1 ?i1 ?a2 ?i2 ?a30 ?i30 ?a31 ?i31 ?a6 ?a7 ?a8 ?a9 ?a10 ?a11 ?a12 ?a13 ?a14 ?a15 ?a16 ?a17 ?a18 ?a19 ?a20 ?a21 ?a22 ?l1 ?c1 ?k1 ?l2 ?c2 ?k2 ?l6 ?c6 ?k6 ?l7 ?c7 ?k7 ?l8 ?c8 ?k8 ?l9 ?c9 ?k9 ?l10 ?c10 ?k10 ?l11 ?c11 ?k11 ?l12 ?c12 ?k12 ?l13 ?c13 ?k13 ?l14 ?c14 ?k14 ?l15 ?c15 ?k15 ?l16 ?c16 ?k16 ?l17 ?c17 ?k17 ?l18 ?c18 ?k18 ?l19 ?c19 ?k19 ?l20 ?c20 ?k20 ?l21 ?c21 ?k21 ?l22 ?c22 ?k22 ?l30 ?c30 ?k30 ?d30_0 ?d30_1 ?d30_2 ?d30_3 ?d30_4 ?l31 ?c31 ?k31 ?d31_0 ?d31_1 ?d31_2 ?d31_3 ?d31_4 ?d31_5 ?d31_6 ?d31_7 ?d31_8 ?bpg ?bhd ?bpo ?bsa ?bmk ?bkc ?bn1 ?bn2 ?bn3 ?bn4 ?bn5 ?be1 ?be4 ?be5 ?bne ?spg ?shd ?spo ?ssa ?smk ?skc ?sn1 ?sn2 ?sn3 ?sn4 ?sn5 ?sn6 ?sn7 ?sn8 ?sn9 ?se1 ?se4 ?se5 ?sne ?e2 ?e3 ?sx_NoneType ?sx_bool ?sx_int ?sx_str ?sx_tuple ?sx_list ?sxo ?sy_NoneType ?sy_bool ?sy_int ?sy_str ?sy_tuple ?sy_list ?syo ?sym ?bx_NoneType ?bx_bool ?bx_int ?bx_str ?bx_tuple ?bx_list ?bxo ?by_NoneType ?by_bool ?by_int ?by_str ?by_tuple ?by_list ?byo ?bym ?g_dT ?q_dT ?g_wT ?q_wT ?g_cT ?q_cT ?g_pT ?q_pT ?z_len ?z_abs ?z_enumerate ?z_range ?z_min ?z_max ?z_isinstance ?z_int ?z_bool ?z_tuple ?z_repr
    (case aCB => k_is)
    (case aCS => k_is)
    (case a1 => k_is)
    (case i1 => k_is)
    (case a2 => k_is)
    (case i2 => k_is)
    (case a30 => k_is)
    (case i30 => k_is)
    (case a31 => k_is)
    (case i31 => k_is)
    (case a6 => k_is)
    (case a7 => k_is)
    (case a8 => k_is)
    (case a9 => k_is)
    (case a10 => k_is)
    (case a11 => k_is)
    (case a12 => k_is)
    (case a13 => k_is)
    (case a14 => k_is)
    (case a15 => k_is)
    (case a16 => k_is)
    (case a17 => k_is)
    (case a18 => k_is)
    (case a19 => k_is)
    (case a20 => k_is)
    (case a21 => k_is)
    (case a22 => k_is)
    (case l1 => k_is)
    (case c1 => k_is)
    (case k1 => k_is)
    (case l2 => k_is)
    (case c2 => k_is)
    (case k2 => k_is)
    (case l6 => k_is)
    (case c6 => k_is)
    (case k6 => k_is)
    (case l7 => k_is)
    (case c7 => k_is)
    (case k7 => k_is)
    (case l8 => k_is)
    (case c8 => k_is)
    (case k8 => k_is)
    (case l9 => k_is)
    (case c9 => k_is)
    (case k9 => k_is)
    (case l10 => k_is)
    (case c10 => k_is)
    (case k10 => k_is)
    (case l11 => k_is)
    (case c11 => k_is)
    (case k11 => k_is)
    (case l12 => k_is)
    (case c12 => k_is)
    (case k12 => k_is)
    (case l13 => k_is)
    (case c13 => k_is)
    (case k13 => k_is)
    (case l14 => k_is)
    (case c14 => k_is)
    (case k14 => k_is)
    (case l15 => k_is)
    (case c15 => k_is)
    (case k15 => k_is)
    (case l16 => k_is)
    (case c16 => k_is)
    (case k16 => k_is)
    (case l17 => k_is)
    (case c17 => k_is)
    (case k17 => k_is)
    (case l18 => k_is)
    (case c18 => k_is)
    (case k18 => k_is)
    (case l19 => k_is)
    (case c19 => k_is)
    (case k19 => k_is)
    (case l20 => k_is)
    (case c20 => k_is)
    (case k20 => k_is)
    (case l21 => k_is)
    (case c21 => k_is)
    (case k21 => k_is)
    (case l22 => k_is)
    (case c22 => k_is)
    (case k22 => k_is)
    (case l30 => k_is)
    (case c30 => k_is)
    (case k30 => k_is)
    (case d30_0 => k_is)
    (case d30_1 => k_is)
    (case d30_2 => k_is)
    (case d30_3 => k_is)
    (case d30_4 => k_is)
    (case l31 => k_is)
    (case c31 => k_is)
    (case k31 => k_is)
    (case d31_0 => k_is)
    (case d31_1 => k_is)
    (case d31_2 => k_is)
    (case d31_3 => k_is)
    (case d31_4 => k_is)
    (case d31_5 => k_is)
    (case d31_6 => k_is)
    (case d31_7 => k_is)
    (case d31_8 => k_is)
    (case bpg => k_is)
    (case bhd => k_is)
    (case bpo => k_is)
    (case bsa => k_is)
    (case bmk => k_is)
    (case bkc => k_is)
    (case bn1 => k_is)
    (case bn2 => k_is)
    (case bn3 => k_is)
    (case bn4 => k_is)
    (case bn5 => k_is)
    (case be1 => k_is)
    (case be4 => k_is)
    (case be5 => first | kernel_rfl | rfl | decide +kernel)
    (case bne => k_is)
    (case spg => k_is)
    (case shd => k_is)
    (case spo => k_is)
    (case ssa => k_is)
    (case smk => k_is)
    (case skc => k_is)
    (case sn1 => k_is)
    (case sn2 => k_is)
    (case sn3 => k_is)
    (case sn4 => k_is)
    (case sn5 => k_is)
    (case sn6 => k_is)
    (case sn7 => k_is)
    (case sn8 => k_is)
    (case sn9 => k_is)
    (case se1 => k_is)
    (case se4 => k_is)
    (case se5 => first | kernel_rfl | rfl | decide +kernel)
    (case sne => k_is)
    (case e2 => k_is)
    (case e3 => k_is)
    (case sx_NoneType => first | kernel_rfl | rfl | decide +kernel)
    (case sx_bool => first | kernel_rfl | rfl | decide +kernel)
    (case sx_int => first | kernel_rfl | rfl | decide +kernel)
    (case sx_str => first | kernel_rfl | rfl | decide +kernel)
    (case sx_tuple => first | kernel_rfl | rfl | decide +kernel)
    (case sx_list => first | kernel_rfl | rfl | decide +kernel)
    (case sxo => first | kernel_rfl | rfl | decide +kernel)
    (case sy_NoneType => k_is)
    (case sy_bool => k_is)
    (case sy_int => k_is)
    (case sy_str => k_is)
    (case sy_tuple => k_is)
    (case sy_list => k_is)
    (case syo => k_is)
    (case sym => k_is)
    (case bx_NoneType => first | kernel_rfl | rfl | decide +kernel)
    (case bx_bool => first | kernel_rfl | rfl | decide +kernel)
    (case bx_int => first | kernel_rfl | rfl | decide +kernel)
    (case bx_str => first | kernel_rfl | rfl | decide +kernel)
    (case bx_tuple => first | kernel_rfl | rfl | decide +kernel)
    (case bx_list => first | kernel_rfl | rfl | decide +kernel)
    (case bxo => first | kernel_rfl | rfl | decide +kernel)
    (case by_NoneType => k_is)
    (case by_bool => k_is)
    (case by_int => k_is)
    (case by_str => k_is)
    (case by_tuple => k_is)
    (case by_list => k_is)
    (case byo => k_is)
    (case bym => k_is)
    (case g_dT => k_is)
    (case q_dT => k_is)
    (case g_wT => k_is)
    (case q_wT => k_is)
    (case g_cT => k_is)
    (case q_cT => k_is)
    (case g_pT => k_is)
    (case q_pT => k_is)
    (case z_len => k_is)
    (case z_abs => k_is)
    (case z_enumerate => k_is)
    (case z_range => k_is)
    (case z_min => k_is)
    (case z_max => k_is)
    (case z_isinstance => k_is)
    (case z_int => k_is)
    (case z_bool => k_is)
    (case z_tuple => k_is)
    (case z_repr => k_is)
