import PyProof.Rows.All
import Wide.All
import OpenK.AllK
import Wide.FinOn
import HandS.ForMost
import HandS.Wide
import HandS.ClsMeth
import HandS.Property
import HandS.More
import HandS.Conv
import HandS.Codes
import HandS.Style
import HandS.IsInst
import HandS.OwnEq
import HandS.MakeKwOnly
import HandS.Words
import HandS.ForExc
import HandS.ListItems
import HandS.SortOrd
import HandS.SortRule
import PyProof.SumWalkG
import HandS.Sort
import KE.KExcSuper
import HandS.ExcInit
import HandS.ExcField
import HandS.Nested
import HandS.FStr
import HandS.GenBody
import PyProof.ReprNest
import PyProof.ReprHeadsEmpty
import PyProof.StrHeap
import PyProof.ListRange
import HandS.Defaults
import HandS.CallLocal
import HandS.WrittenGet
import HandS.GenYield
import HandS.GenCall
import HandS.GenList
import PyProof.GenComp
import KE.KMinKey
import HandS.Lambda
import KE.KIsAll
import PyProof.IsiBase
import PyProof.IsiStr
import PyProof.NeKinds
import PyProof.EqKinds
import PyProof.InstEq
import HandS.Call
import HandS.ExcIs
import KE.KExcLine
import KE.KNestM
import HandS.EndTab
import PySem.Challenge.RW_devicewindows_k14_whole_returns_in_any_o
set_option Elab.async false
set_option linter.all false
set_option maxRecDepth 100000
set_option maxHeartbeats 4000000
/-! Rules of one's own: a class called by a local name, static methods, operators of own classes. -/
namespace Ow
open PySem PySem.Spec PyProof.Rows L2
/-- an own def called at some around -/
theorem run_own {X : Cx} {CX : CXT} {k : Nat} {f : Addr} {fd : FuncData} {ps : List Str} {sp : Sp} {E : XK} {A : Around} {pins : List (Addr × Obj)} {σ : L2.St} {H : Hp} {s : Shared} {Q : VK} {us : List Value} {vs : List V}
    (F : FnOk X.prog X.w X.K X.mg X.base CX k f fd ps sp) (hr : Room k A) (e0 : Env0 X.prog X.w X.K X.mg X.base A X.stack s H) (hb : Binds X.K fd ps []) (hx : Passes CX X E) (I : Inv X pins σ H s) (r : Vals vs us) (h : sp vs H Q E) :
    wpAny (model X.prog X.w) A (call (.ref f) us) (EP X pins σ Q) X.xe s := by
  have hl : us.length = ps.length := by rw [← r.length]; exact F.len _ _ _ _ h
  refine wpAny_call (codeAny_mono (F.run A X.stack s H ⟨us, []⟩ us vs Q E hr e0 (by
    have z := hb s us I.kIn (by simpa using hl)
    simpa using z) r h) fun q s' hq => ?_)
  cases q with
  | error e => exact hx pins σ H s e s' I hq
  | ok fl =>
    cases fl with
    | ret w => exact I.after hq
    | next => exact False.elim hq
    | brk => exact False.elim hq
    | cont => exact False.elim hq
section
variable {X : Cx} {CX : CXT} {k i : Nat} {f C p g : Addr} {mc : Value} {fd : FuncData} {ps : List Str} {sp : Sp} {dvs : List V} {ds : List Value} {E : XK} {x m : Str} {px pos apos : Pos} {o e : Expr} {es : List Expr} {ta : TE} {t : TA} {pl : Sem Bool}
/-- x(e, ..), the i-th slot holds the class at C -/
def tMakeL (i : Nat) (C : Addr) (sp : Sp) (dvs : List V) (E : XK) (t : TA) : TE := fun σ H Q => σ[i]? = some (some (.ref C)) ∧ tMake C sp dvs E t σ H Q
theorem pe_makeL (M : Mk X.K C f) (F : FnOk X.prog X.w X.K X.mg X.base CX k f fd ps sp) (hr : Room (k + 1) X.A) (hN : X.N[i]? = some x) (hv : Vis X.env.scope x) (hb : Binds X.K fd ps ds) (hd : Vals dvs ds) (hx : Passes CX X E)
    (ha : PA X (e :: es) t) (hdb : (x == ("__debug__" : Str)) = false := by decide) (hcd : (x == ("__classdict__" : Str)) = false := by decide) (he : starEach (e :: es) X.env = (false, eval e X.env) :: starEach es X.env := by rfl) (hpl : (backTo pos (starEach es X.env)).any (·.1) = false := by rfl) :
    PE X (.Call (.Name x px) (e :: es) [] pos) (tMakeL i C sp dvs E t) := by
  refine ⟨fun pins s σ H Q I h => ?_⟩
  obtain ⟨hs, ht⟩ := h
  refine wpAny_Call_Name_kw (thn ((pe_var (pos := px) hN hv hdb hcd).run pins s σ H (fun v H1 => v = .ref C ∧ H1 = H) I ⟨.ref C, hs, rfl, rfl⟩) fun u s1 ⟨v, H1, I1, r1, q1⟩ => ?_)
  obtain ⟨rfl, rfl⟩ := q1
  cases r1
  refine PySem.W.callWith_K (h₀ := X.base) I1.ok.mod.kin M.kp (thn (ha.run pos pins s1 σ _ _ I1 ht) fun us s2 ⟨vs, H2, I2, r, q⟩ => ⟨I2.kIn, ?_⟩) he hpl
  exact run_make M F hr hb hd hx I2 r q
/-- C.m is a static method: its record at p, its def at g -/
structure SMet (K : PySem.W.Frag) (C : Addr) (mc : Value) (m : Str) (p g : Addr) : Prop where
  at_ : PySem.W.findCls K (.ref C) mc m = some (.get (.builtin "staticmethod.__get__") (.ref p) .none (.ref C))
  rc : ∃ rest, PySem.W.recIn K p "staticmethod" = some (.ref g :: rest)
  kp : PySem.W.keepIn K (.ref g) = true
def tSMeth (C : Addr) (sp : Sp) (dvs : List V) (E : XK) (ta : TE) (t : TA) : TE := fun σ H Q => ta σ H fun x H1 => x = .ref C ∧ t σ H1 fun vs H2 => sp (vs ++ dvs) H2 Q E
theorem pe_smeth (he : PE X o ta) (r : ClX.CRead X.K C mc) (c : SMet X.K C mc m p g) (F : FnOk X.prog X.w X.K X.mg X.base CX k g fd ps sp) (hr : Room k X.A) (hb : Binds X.K fd ps ds) (hd : Vals dvs ds) (hx : Passes CX X E) (ha : PA X (e :: es) t)
    (hst : starEach (e :: es) X.env = (false, eval e X.env) :: starEach es X.env := by rfl) (hpl : (backTo pos (starEach es X.env)).any (·.1) = false := by rfl)
    (ht : eval (.Call (.Attribute o m apos) (e :: es) [] pos) X.env = (do
      let ov ← eval o X.env
      standAt apos.atName
      let (f, first) ← holding [ov] (getMethod ov m pl)
      callWith pos f first (backTo pos (starEach (e :: es) X.env)) (backToKw pos (keywordEach [] X.env))) := by rfl) :
    PE X (.Call (.Attribute o m apos) (e :: es) [] pos) (tSMeth C sp dvs E ta t) := by
  refine ⟨fun pins s σ H Q I h => ?_⟩
  refine PySem.W.methodCall_KW (pl := pl) (thn (he.run pins s σ H _ I h) fun u s1 ⟨x, H1, I1, rx, ex, q⟩ => ?_) ht
  subst ex
  obtain rfl : u = Value.ref C := rx
  obtain ⟨rest, hp⟩ := c.rc
  refine PySem.W.method_cls I1.kIn r.ga (PySem.W.cls_bind I1.kIn r.rd c.at_ (wpAny_call (PySem.W.sm_get (s := { s1 with toks := s1.toks + 1 }) I1.kIn hp (PySem.W.handed_on rfl ?_))))
  have I2 := I1.tok (s1.toks + 1)
  refine PySem.W.callWith_K (h₀ := X.base) I2.ok.mod.kin c.kp (thn (ha.run pos pins _ σ H1 _ I2 q) fun us s2 ⟨vs, H2, I3, r, q2⟩ => ⟨I3.kIn, ?_⟩) hst hpl
  exact run_fn F hr hb hd hx I3 r q2
end
/-! ### operators of an own class -/
section
variable {X : Cx} {CX : CXT} {k : Nat} {C f : Addr} {fd : FuncData} {ps : List Str} {sp : Sp} {E : XK}
/-- a op b, both instances of C, C has the method -/
def rBin (C : Addr) (sp : Sp) (E : XK) : R2 := fun x y H Q => ∃ a b dx dy fs gs, x = .ref a ∧ y = .ref b ∧ H a = some (.ins C dx fs) ∧ H b = some (.ins C dy gs) ∧ sp [.ref a, .ref b] H (fun v H' => (∀ c, v ≠ .ty c) ∧ Q v H') E
/-- len(o) -/
def rLenO (C : Addr) (sp : Sp) (E : XK) : List V → Hp → VK → Prop := fun xs H Q => ∃ a dx fs, xs = [.ref a] ∧ H a = some (.ins C dx fs) ∧ sp [.ref a] H (fun v H' => ∃ n : Int, v = .int n ∧ 0 ≤ n ∧ n < 2 ^ 63 ∧ Q (.int n) H') E
theorem call_lenO (F : FnOk X.prog X.w X.K X.mg X.base CX k f fd ps sp) (hr : Room (k + 1) X.A) (hs : PySem.W.findIn X.K (.ref C) "__len__" = some (some (.ref f))) (hf : PySem.W.isFn X.K (.ref f) = true) (hb : Binds X.K fd ps []) (hx : Passes CX X E) :
    CallR X (.builtin "len") (rLenO C sp E) := by
  intro pins s σ H xs us Q I r h
  obtain ⟨a, dx, fs, rfl, ha, q⟩ := h
  obtain ⟨u, rfl, ru⟩ := vals1 r
  obtain rfl : u = Value.ref a := ru
  obtain ⟨mA, J, _⟩ := ins_get I.hok ha
  obtain ⟨od, J, _⟩ := J.look
  obtain ⟨m, hF⟩ := I.fr
  refine PySem.W.len_K hF I.ok.mod.kin J hs hf (wpAny_mono (run_own F hr.in1 I.env0.in1 hb hx I (vs := [.ref a]) (.cons (show RelV (.ref a) (.ref a) from rfl) .nil) q) (fun v s' hq => ?_) fun _ _ z => z)
  obtain ⟨w, H', I', rw', n, rfl, n0, n1, q'⟩ := hq
  obtain ⟨t, rfl⟩ := rw'
  exact ⟨⟨n0, n1⟩, .int n, H', I'.tok _, ⟨_, rfl⟩, q'⟩
/-- x in o -/
def rInO (C : Addr) (sp : Sp) (E : XK) : R2 := fun x y H Q => ∃ a dx fs, y = .ref a ∧ H a = some (.ins C dx fs) ∧ sp [.ref a, x] H (fun v H' => ∃ b, v = .bl b ∧ Q (.bl b) H') E
theorem op_inO (F : FnOk X.prog X.w X.K X.mg X.base CX k f fd ps sp) (hr : Room k X.A) (hs : PySem.W.findIn X.K (.ref C) "__contains__" = some (some (.ref f))) (hf : PySem.W.isFn X.K (.ref f) = true) (hb : Binds X.K fd ps []) (hx : Passes CX X E) :
    OpR X (compareOp .In) (rInO C sp E) := by
  intro pins s σ H x y v u Q I rx ry h
  obtain ⟨a, dx, fs, rfl, ha, q⟩ := h
  obtain rfl : u = Value.ref a := ry
  obtain ⟨mA, J, _⟩ := ins_get I.hok ha
  obtain ⟨od, J, _⟩ := J.look
  obtain ⟨m, hF⟩ := I.fr
  refine PySem.W.in_K hF I.ok.mod.kin J hs hf (wpAny_mono (run_own F hr I.env0 hb hx I (vs := [.ref a, x]) (.cons (show RelV (.ref a) (.ref a) from rfl) (.cons rx .nil)) q) (fun v s' hq => ?_) fun _ _ z => z)
  obtain ⟨w, H', I', rw', b, rfl, q'⟩ := hq
  cases rw'
  exact wpAny_truthy_bool ⟨.bl b, H', I', rfl, q'⟩
/-- a op b of two instances of C by C's own method -/
theorem op_bin {op : Operator} (F : FnOk X.prog X.w X.K X.mg X.base CX k f fd ps sp) (hr : Room k X.A) (hc : PySem.W.selfFirst X.K C = true) (hs : PySem.W.findIn X.K (.ref C) (PySem.dunder op.info.2) = some (some (.ref f))) (hf : PySem.W.isFn X.K (.ref f) = true) (hb : Binds X.K fd ps []) (hx : Passes CX X E) :
    OpR X (binaryOp op) (rBin C sp E) := by
  intro pins s σ H x y v u Q I rx ry h
  obtain ⟨a, b, dx, dy, fs, gs, rfl, rfl, ha, hb', q⟩ := h
  obtain rfl : v = Value.ref a := rx
  obtain rfl : u = Value.ref b := ry
  obtain ⟨mA, J, _⟩ := ins_get I.hok ha
  obtain ⟨mB, J', _⟩ := ins_get I.hok hb'
  obtain ⟨od, J, _⟩ := J.look
  obtain ⟨od', J', _⟩ := J'.look
  obtain ⟨m, hF⟩ := I.fr
  refine PySem.W.binop_K hF I.ok.mod.kin J J'.type hc hs hf (wpAny_mono (run_own F hr I.env0 hb hx I (vs := [.ref a, .ref b]) (.cons (show RelV (.ref a) (.ref a) from rfl) (.cons (show RelV (.ref b) (.ref b) from rfl) .nil)) q) (fun w s' hq => ?_) fun _ _ z => z)
  obtain ⟨z, H', I', rw', nt, q'⟩ := hq
  cases z with
  | ty c => exact absurd rfl (nt c)
  | non => cases rw'; exact ⟨.non, H', I', rfl, q'⟩
  | bl c => cases rw'; exact ⟨.bl c, H', I', rfl, q'⟩
  | int n => obtain ⟨t, rfl⟩ := rw'; exact ⟨.int n, H', I', ⟨t, rfl⟩, q'⟩
  | str n => obtain ⟨t, rfl⟩ := rw'; exact ⟨.str n, H', I', ⟨t, rfl⟩, q'⟩
  | byt n => obtain ⟨t, rfl⟩ := rw'; exact ⟨.byt n, H', I', ⟨t, rfl⟩, q'⟩
  | flt n => obtain ⟨t, rfl⟩ := rw'; exact ⟨.flt n, H', I', ⟨t, rfl⟩, q'⟩
  | ref c => cases rw'; exact ⟨.ref c, H', I', rfl, q'⟩
/-- a == y, a an instance of C with its own __eq__, y of a type that does not go first -/
def rEqO (K : PySem.W.Frag) (C : Addr) (sp : Sp) (E : XK) : R2 := fun x y H Q => ∃ a dx fs t, x = .ref a ∧ H a = some (.ins C dx fs) ∧ TyX K H y t ∧ PySem.W.notFirst K C t = true ∧ sp [.ref a, y] H (fun v H' => ∃ b, v = .bl b ∧ Q (.bl b) H') E
theorem op_eqO (F : FnOk X.prog X.w X.K X.mg X.base CX k f fd ps sp) (hr : Room k X.A) (hs : PySem.W.findIn X.K (.ref C) "__eq__" = some (some (.ref f))) (hf : PySem.W.isFn X.K (.ref f) = true) (hb : Binds X.K fd ps []) (hx : Passes CX X E) :
    OpR X (compareOp .Eq) (rEqO X.K C sp E) := by
  intro pins s σ H x y v u Q I rx ry h
  obtain ⟨a, dx, fs, t, rfl, ha, ty, hn, q⟩ := h
  obtain rfl : v = Value.ref a := rx
  obtain ⟨mA, J, _⟩ := ins_get I.hok ha
  obtain ⟨od, J, _⟩ := J.look
  obtain ⟨m, hF⟩ := I.fr
  obtain ⟨P, kx, hP, _⟩ := kit_of I ry ty
  show wpAny _ _ (richCompare .Eq (.ref a) u) _ _ _
  refine PySem.W.cmp_K (op := .Eq) (tb := t) hr.units0 hF I.ok.mod.kin J (kx.ty _ _ I.kIn hP) hn hs hf (wpAny_mono (run_own F hr I.env0 hb hx I (vs := [.ref a, y]) (.cons (show RelV (.ref a) (.ref a) from rfl) (.cons ry .nil)) q) (fun w s' hq => ?_) fun _ _ z => z)
  obtain ⟨z, H', I', rw', b, rfl, q'⟩ := hq
  cases rw'
  exact ⟨.bl b, H', I', rfl, q'⟩
end
end Ow
/-! Class methods and classes called by keywords alone; defs without defaults. -/
namespace Kc
open PySem PySem.Spec PyProof.Rows L2
section
variable {K : PySem.W.Frag} {x qual : Str} {st : Stmt} {f : Addr} {fd : FuncData}
/-- one value by its place, two by their names, the later one first -/
theorem kbn_swap {p0 p1 p2 : Str} (F : Fun K x qual st f fd)
    (h : ∀ (kV doc pm : Value) (an : Option Addr) (cdv ct : Value) (u a b : Value), bindArgs (PySem.W.fnOf x qual (defArgs st) (defBody st) (defScope st) .none kV doc pm an cdv ct) ⟨[u], [(p2, a), (p1, b)]⟩ = pure ([p0, p1, p2].zip [u, b, a])) :
    KBn K fd [p0, p1, p2] 1 [p2, p1] (fun us ws => us ++ ws.reverse) (fun vs zs => vs ++ zs.reverse) := by
  obtain ⟨oc, od, kV, doc, pm, an, cdv, ct, osl, rfl, _, _⟩ := F.ex
  refine ⟨fun s us ws _ l1 l2 => ?_, fun r1 r2 => r1.append r2.reverse⟩
  obtain ⟨u, rfl⟩ : ∃ u, us = [u] := List.length_eq_one_iff.mp l1
  obtain ⟨a, b, rfl⟩ : ∃ a b, ws = [a, b] := match ws, l2 with
    | [a, b], _ => ⟨a, b, rfl⟩
  exact .of_eq (h kV doc pm an cdv ct u a b)
end
/-- o.m(k = v, ..), o the class at C, m a classmethod -/
def tCMethK (C : Addr) (n : Nat) (sp : Sp) (gV : List V → List V → List V) (E : XK) (ta : TE) (tk : TA) : TE := fun σ H Q => ta σ H fun x H1 => x = .ref C ∧ tk σ H1 fun zs H2 => zs.length = n ∧ sp (gV [.ref C] zs) H2 Q E
section
variable {X : Cx} {CX : CXT} {k : Nat} {C p g : Addr} {mc : Value} {fd : FuncData} {ps ks : List Str} {sp : Sp} {E : XK} {o : Expr} {kws : List Keyword} {m : Str} {pos apos : Pos} {ta : TE} {tk : TA} {pl : Sem Bool} {gg : List Value → List Value → List Value} {gV : List V → List V → List V}
theorem pe_cmethK0 (he : PE X o ta) (r : ClX.CRead X.K C mc) (c : ClX.CMet X.K C mc m p g) (F : FnOk X.prog X.w X.K X.mg X.base CX k g fd ps sp) (hb : KBn X.K fd ps 1 ks gg gV) (hr : Room k X.A) (hx : Passes CX X E) (hkw : PK X kws tk)
    (hall : (backToKw pos (keywordEach kws X.env)).all (·.1.isSome) = true := by rfl) (hks : (backToKw pos (keywordEach kws X.env)).filterMap (·.1) = ks := by rfl)
    (hpl : ((backTo pos (starEach [] X.env)).any (·.1) || (backToKw pos (keywordEach kws X.env)).any (·.1.isNone)) = false := by rfl)
    (ht : eval (.Call (.Attribute o m apos) [] kws pos) X.env = (do
      let v ← eval o X.env
      standAt apos.atName
      let (fv, fst) ← holding [v] (getMethod v m pl)
      callWith pos fv fst (backTo pos (starEach [] X.env)) (backToKw pos (keywordEach kws X.env))) := by rfl) :
    PE X (.Call (.Attribute o m apos) [] kws pos) (tCMethK C ks.length sp gV E ta tk) := by
  refine ⟨fun pins s σ H Q I h => ?_⟩
  refine PySem.W.methodCall_KW (pl := pl) (thn (he.run pins s σ H _ I h) fun u s1 hh => ?_) ht
  obtain ⟨x, H1, I1, rx, ex, q⟩ := hh
  subst ex
  cases rx
  refine ClX.getmethcm_ok I1 r c fun s2 I2 => ?_
  refine PySem.W.callWith_of (first := []) hpl (PySem.W.keeps_M (K := X.K) (self := .ref C) c.fi) (evalArgs_kw2_nil hall (thn (hkw.run pos _ s2 σ H1 _ I2 q) fun ws s3 hh2 => ?_))
  obtain ⟨zs, H2, I3, rz, l2, q2⟩ := hh2
  refine ⟨⟨ClX.pin_at I3, I3.kIn⟩, ?_⟩
  rw [hks]
  have r2 : Vals (gV [.ref C] zs) (gg [.ref C] ws) := hb.rel (.cons rfl .nil) rz
  have z : wpAny (model X.prog X.w) X.A (call (.ref s1.heap.objs.size) [] (ks.zip ws)) (EP X ((s1.heap.objs.size, PySem.W.methodObj (.ref g) (.ref C)) :: pins) σ Q) X.xe s3 := by
    refine wpAny_call (PySem.W.method_call (ClX.pin_at I3) (codeAny_mono (F.run X.A X.stack s3 H2 ⟨[.ref C], ks.zip ws⟩ (gg [.ref C] ws) (gV [.ref C] zs) Q E hr I3.env0 (hb.to s3 [.ref C] ws I3.kIn rfl (rz.length.symm.trans l2)) r2 q2) fun r s' hq => ?_))
    cases r with
    | error e => exact hx _ σ H2 s3 e s' I3 hq
    | ok fl =>
      cases fl with
      | ret w => exact I3.after hq
      | next => exact False.elim hq
      | brk => exact False.elim hq
      | cont => exact False.elim hq
  exact thn z fun _ _ y => ClX.unpinE y
end
end Kc
namespace Sc
open PySem L2
def top (i : Nat) : Stmt := PySem.Challenge.pw_devicewindows_k14_whole_returns_in_any_o.main.body.getD i (.Pass ⟨0, 0, 0, 0⟩)
abbrev s__wall : Stmt := top 0
abbrev s_NoRoom___init__ : Stmt := inClass (top 6) 0
abbrev s_integer : Stmt := top 8
abbrev s_whole : Stmt := top 9
abbrev s_Run___init__ : Stmt := inClass (top 12) 2
abbrev s_Run_of_page : Stmt := inClass (top 12) 3
abbrev s_Run_between : Stmt := inClass (top 12) 4
abbrev s_Run_end : Stmt := inClass (top 12) 5
abbrev s_Run___eq__ : Stmt := inClass (top 12) 6
abbrev s_Run___contains__ : Stmt := inClass (top 12) 7
abbrev s_Run___and__ : Stmt := inClass (top 12) 8
abbrev s_Run___len__ : Stmt := inClass (top 12) 9
abbrev s_Run___repr__ : Stmt := inClass (top 12) 10
abbrev s_Run_words : Stmt := inClass (top 12) 11
abbrev s_Run_touched_lines : Stmt := inClass (top 12) 12
abbrev s_Run_touched_pages : Stmt := inClass (top 12) 13
abbrev s_Run__touched : Stmt := inClass (top 12) 14
abbrev s__first : Stmt := top 14
abbrev s__best : Stmt := top 15
abbrev s__worst : Stmt := top 16
abbrev s__next : Stmt := top 17
abbrev s__halves : Stmt := top 18
abbrev s_Space___init__ : Stmt := inClass (top 21) 0
abbrev s_Space_free : Stmt := inClass (top 21) 1
abbrev s_Space_mark : Stmt := inClass (top 21) 2
abbrev s_Space_holes : Stmt := inClass (top 21) 3
abbrev s_Space_take : Stmt := inClass (top 21) 4
abbrev s_Space_choose : Stmt := inClass (top 21) 5
abbrev s_Space_occupy : Stmt := inClass (top 21) 6
abbrev s_Space_give_back : Stmt := inClass (top 21) 7
abbrev s_Space__asked : Stmt := inClass (top 21) 8
abbrev s_holes_of : Stmt := top 22
abbrev s_size_of : Stmt := top 23
abbrev s_answer_of : Stmt := top 24
abbrev s__power : Stmt := top 25
abbrev s__law_bag : Stmt := top 27
abbrev s__law_take : Stmt := top 28
abbrev s__law_seen : Stmt := top 29
abbrev s__law_asked : Stmt := top 30
abbrev s__law_is_parted : Stmt := top 31
abbrev s__law_mixed : Stmt := top 32
abbrev s_law : Stmt := top 33
end Sc
/-! Two rules of one's own: storing to a slice of a list; sorting the items of a dict with int keys and bool values. -/
namespace Ln
open PySem PySem.Spec PyProof.Rows L2
/-! ### xs[a:c] = ys -/
/-- the target's reading: the list at l, its bounds, the other list at b -/
def gSlice (to tl th : TE) : TG := fun v σ H Q => to σ H fun x H1 => tl σ H1 fun y H2 => th σ H2 fun z H3 =>
  ∃ (l b : Addr) (xs ys : List V) (a c : Int), x = .ref l ∧ v = .ref b ∧ y = .int a ∧ z = .int c ∧ H3 l = some (.lst xs) ∧ H3 b = some (.lst ys) ∧ l ≠ b ∧ 0 ≤ a ∧ a ≤ c ∧ c ≤ xs.length ∧ xs.length + ys.length ≤ sizeLine ∧
    Q σ (upd H3 l (.lst (xs.take a.toNat ++ ys ++ xs.drop c.toNat)))
section
variable {X : Cx} {pos : Pos}
theorem pg_slice {o lo hi : Expr} {p2 : Pos} {to tl th : TE} (ho : PE X o to) (hl : PE X lo tl) (hh : PE X hi th)
    (ha : ∀ v, assign (.Subscript o (.Slice (some lo) (some hi) none p2) pos) X.env v = (do
      let ov ← holding [v] (eval o X.env)
      let iv ← holding [v, ov] (eval (.Slice (some lo) (some hi) none p2) X.env)
      standAt pos
      holding [v, ov, iv] (setItem ov iv v)
      release [iv, v, ov] []) := by intro _; rfl) : PG X (.Subscript o (.Slice (some lo) (some hi) none p2) pos) (gSlice to tl th) := by
  refine ⟨fun pins s σ H v u Q I r h => ?_⟩
  rw [ha]
  refine wpAny_bind (wpAny_holding (thn (ho.run pins s σ H _ I h) fun ov s1 ⟨x, H1, I1, r1, q1⟩ => ?_))
  refine wpAny_bind (wpAny_holding (wpAny_Slice ?_))
  rw [evalPart_some, evalPart_some]
  refine thn (hl.run pins s1 σ H1 _ I1 q1) fun vl s2 ⟨y, H2, I2, r2, q2⟩ => ?_
  refine thn (hh.run pins s2 σ H2 _ I2 q2) fun vu s3 ⟨z, H3, I3, r3, q3⟩ => ?_
  rw [evalPart_none]
  refine wpAny_pure ?_
  obtain ⟨l, b, xs, ys, a, c, rfl, rfl, rfl, rfl, e1, e2, ne, h0, hac, hc, hz, q⟩ := q3
  obtain rfl : ov = Value.ref l := r1
  obtain rfl : u = Value.ref b := r
  have I4 : Inv X pins σ H3 { s3 with heap := s3.heap.push { cls := .type "slice", data := .fields #[vl, vu, .none] } } := I3.kept (t' := s3.toks) fun b ob q => Heap.get?_push_of_some _ q
  refine wpAny_bind (wpAny_standAt (wpAny_bind (wpAny_holding (set_slice I4 e1 e2 ne (Heap.IsSliceOf.new ..) r2 r3 h0 hac hc hz fun s' I' => ?_))))
  exact wpAny_release ⟨σ, _, I', q⟩
end
/-! ### sorted(d.items()): int keys, bool values -/
abbrev ltK (k : Value → Int) (v u : Value) : Bool := decide (k v < k u)
theorem swo_K (k : Value → Int) : SrtO.Swo (ltK k) := by
  refine ⟨fun x y h => ?_, fun x y z h1 h2 => ?_⟩
  · have a : k x < k y := of_decide_eq_true h
    exact decide_eq_false (by omega)
  · have a : ¬ k y < k x := of_decide_eq_false h1
    have b : ¬ k z < k y := of_decide_eq_false h2
    exact decide_eq_false (by omega)
end Ln
/-! sum(d.values()) of a dict whose values are ints. -/
namespace Sv
open PySem PySem.Spec PyProof.Rows L2
theorem preSum_take (is : List Int) : ∀ n, n ≤ is.length → preSum (fun i => is.getD i 0) n = (is.take n).sum
  | 0, _ => rfl
  | n + 1, h => by
    have hn : is[n]? = some is[n] := List.getElem?_eq_getElem h
    show preSum (fun i => is.getD i 0) n + is.getD n 0 = _
    rw [preSum_take is n (by omega), List.take_succ, hn, List.sum_append, List.getD_eq_getElem?_getD, hn]
    simp
section
variable {X : Cx}
def tSumVals (td : TE) : TE := fun σ H Q => td σ H fun x H1 => ∃ (a : Addr) (kvs : List (Key × V)) (is : List Int), x = V.ref a ∧ H1 a = some (.dK kvs) ∧ kvs.map (·.2) = is.map V.int ∧ Q (.int is.sum) H1
theorem pe_sumVals {o : Expr} {p pos apos mpos : Pos} {td : TE} (hc : X.calm = true) (hg : Gl X "sum") (hm : X.mg "sum" = none) (hd : PE X o td) (hbase : attributeBase o "values" X.env (eval o X.env) = eval o X.env := by rfl) (hline : (apos.endLine == mpos.line) = true := by rfl)
    (hse : starEach [Expr.Call (.Attribute o "values" apos) [] [] mpos] X.env = [(false, eval (Expr.Call (.Attribute o "values" apos) [] [] mpos) X.env)] := by rfl) :
    PE X (.Call (.Name "sum" p) [.Call (.Attribute o "values" apos) [] [] mpos] [] pos) (tSumVals td) := by
  refine ⟨fun pins s σ H Q I h => ?_⟩
  refine wpAny_Call_Name_kw (ld_blt I hg hm (u := .builtin "sum") (by decide +kernel) ?_ (by decide) (by decide))
  rw [hse]
  refine PySem.callWith_builtin1 (wpAny_Call_method0_late hbase hline (thn (hd.run pins s σ H _ I h) fun v s1 ⟨x, H1, I1, r1, a, kvs, is, ex, ha, hv, q⟩ => ?_))
  subst ex
  cases r1
  obtain ⟨_, hsys, vs, rel, dof⟩ := dk_of I1.hok ha
  obtain ⟨ep, dat⟩ := dof.dictAt
  obtain ⟨ob, es, ho, ex, _⟩ := id dat
  refine ⟨"dict", "dict.values", F.plainAttrs_dict, F.slot_dict_values, F.type_dict_values, ⟨ob, ho, ex.1⟩, fun b e => by cases e; exact ⟨ob, ho, ex.2.1⟩, Calls.callWith_builtin rfl (PySem.evalArgs_none ?_)⟩
  refine call_meetsIn F.slot_dict_values ⟨ob, ho, ex.1⟩ F.entry_dict_values (F.args_dict_values_1 _) (meets_dict_values (mixKind X.prog X.w) a hsys) ⟨⟨vs, dof⟩, ?_⟩
  have k1 : ∀ b u, s1.heap.get? b = some u → (s1.heap.push { cls := .type "dict_values", data := .fields #[.ref a] }).get? b = some u := fun b u e => Heap.get?_push_of_some _ e
  have lv : vs.length = is.length := by
    rw [← KV.length rel, ← List.length_map (f := (·.2)), hv, List.length_map]
  have val : ∀ (i : Nat) (v : Value), (∃ k, vs[i]? = some (k, v)) → ∃ t, v = Value.int (is.getD i 0) t := fun i v ⟨k, hk⟩ => by
    obtain ⟨x, h1, h2⟩ := KV.at' rel hk
    have e1 : (kvs.map (·.2))[i]? = some x := by rw [List.getElem?_map, h1]; rfl
    rw [hv, List.getElem?_map] at e1
    obtain ⟨j, hj, rfl⟩ := Option.map_eq_some_iff.mp e1
    obtain ⟨t, e3⟩ := h2
    exact ⟨t, by rw [e3, List.getD_eq_getElem?_getD, hj]; rfl⟩
  have lt : a < s1.heap.objs.size := Heap.lt_size ho
  have hsz : (s1.heap.push { cls := .type "dict_values", data := .fields #[.ref a] }).objs.size = s1.heap.objs.size + 1 := Heap.size_push _ _
  have dat1 : (s1.heap.push { cls := .type "dict_values", data := .fields #[.ref a] }).DictAt (mixKind X.prog X.w) a vs ep := dat.keep k1
  refine call_sum_walkG (wpAny_pyIter_values (v := s1.heap.objs.size) (d := a) ⟨_, Heap.get?_push_size _ rfl, rfl, rfl⟩ dat1 ?_)
  refine ⟨_, _, _, _, _, _, fun i => is.getD i 0, rfl, Walks.dictValues (knd := mixKind X.prog X.w) (A := X.A.in1) (I.ok.hd hc) (s1.heap.push { cls := .type "dict_values", data := .fields #[.ref a] }).objs.size a (by rw [hsz]; exact Nat.ne_of_lt (Nat.lt_succ_of_lt lt)) vs ep,
    ⟨⟨_, Heap.get?_push_size _ rfl, rfl, rfl⟩, dat1.keep fun b u e => Heap.get?_push_of_some _ e⟩, fun b hb => ?_, val, fun h' tk t' hk => ?_⟩
  · show b < ((s1.heap.push _).push _).objs.size
    rw [Heap.size_push, Heap.size_push]
    rw [hsz] at hb
    rcases List.mem_cons.mp hb with e | hb
    · rw [e]
      exact Nat.lt_succ_self _
    · rw [List.mem_singleton.mp hb]
      exact Nat.lt_succ_of_lt (Nat.lt_succ_of_lt lt)
  · refine ⟨.int _, H1, I1.kept (t' := tk) fun b u e => hk b u (fun hmem => ?_) (Heap.get?_push_of_some _ (k1 b u e)), ⟨t', rfl⟩, ?_⟩
    · have e1 := List.mem_singleton.mp hmem
      have e2 := Heap.lt_size e
      rw [hsz] at e1
      rw [e1] at e2
      exact absurd e2 (Nat.not_lt.mpr (Nat.le_succ _))
    · rw [lv, preSum_take is _ (Nat.le_refl _), List.take_length]
      exact q
end
end Sv
/-! Own exception classes over any built-in error, whose __init__ says super().__init__(..) and then stores one field. -/
namespace Si
open PySem PySem.Spec PyProof.Rows L2 NdefX
/-- what the written part says of such a class -/
structure ExG (K : PySem.W.Frag) (C : Addr) (B nw ni : String) (bm : List Value) : Prop where
  fb : ExcBaseFacts B nw ni bm
  sf : StoreFacts B bm "object.__setattr__" "object"
  kf : PySem.W.KxsFacts B ni
  qq : PySem.W.excInitIn K C bm nw = true
  ov : PySem.W.excOver K C bm = true
  hd : PySem.W.hasDictIn K C = true
  sa : PySem.W.findIn K (.ref C) "__setattr__" = some (some (.builtin "object.__setattr__"))
  exC : PySem.W.subIn K (.ref C) (.type "BaseException") = some true
  tyC : PySem.W.typeIn K (.ref C) = some (.type "type")
  kC : PySem.W.keepIn K (.ref C) = true
  sB : PySem.W.subIn K (.ref C) (.type B) = some true
section
variable {P : Program} {w : World} {A : Around} {R : Result → Shared → Prop} {hp : Heap} {g : Array GenState} {dr : Drawn} {t : Nat} {os : OsState} {K : PySem.W.Frag} {C x : Addr} {B nw ni : String} {bm : List Value} {fv : Array Value} {n : Str} {tk : Tok} {v : Value}
open Builtin Builtin.ObjectAttr in
theorem osa_g (T : ExG K C B nw ni bm) (ht : PySem.W.takerIn K C n = some none) (X : K.In hp) (ex : hp.get? x = some { cls := .ref C, data := .fields fv })
    (k : ∀ h' tk' dx, (∀ b o, b ≠ x → hp.get? b = some o → h'.get? b = some o) → hp.objs.size ≤ dx → dx ≠ x → h'.get? x = some { cls := .ref C, dict := some dx, data := .fields fv } → h'.Ns1 dx (fun y => if y = n then some v else none) → R (.ok (.ret .none)) ⟨h', g, dr, tk', os⟩) :
    codeAny (model P w) A (.call (.builtin "object.__setattr__") ⟨[.ref x, .str n tk, v], []⟩) R ⟨hp, g, dr, t, os⟩ := by
  refine PySem.W.osa_openX (s := ⟨hp, g, dr, t, os⟩) (ox := { cls := .ref C, data := .fields fv }) (od := none) T.sf X ⟨ex, rfl, rfl, trivial⟩ T.ov ht fun b => ?_
  dsimp only
  obtain ⟨cd, hc, hh⟩ := PySem.W.any_some T.hd
  have lc : PySem.W.Looks (model P w) hp (classData C) cd := PySem.W.looks_clsIn X hc
  obtain ⟨_, _, _, _, _, hd, _, _, _, _, _⟩ := cd
  dsimp only at hh
  subst hh
  have xs : x ≠ hp.objs.size := Nat.ne_of_lt (Heap.lt_size ex)
  unfold storeInOwnDict ownDictForStores
  repeat (first | with_reducible refine HandSPX.store_in_new ?_ ?_ | with_reducible refine wpAny_loadPart_at ex ?_ | with_reducible refine lc.at ?_ | wp_step)
  · exact ⟨_, #[], _, (Heap.get?_update_ne _ _ _ _ xs.symm).trans (Heap.get?_push_at rfl rfl), rfl, fun e z => absurd z (by simp), fun _ => rfl⟩
  · intro h' tk' hn hs
    have e1 : (hp.push { cls := .type "dict", data := .dict #[] }).get? x = some { cls := .ref C, data := .fields fv } := Heap.get?_push_of_some _ ex
    refine k h' tk' hp.objs.size (fun b o hb z => (hs.2 b (Nat.ne_of_lt (Heap.lt_size z))).trans ?_) (Nat.le_refl _) xs.symm ((hs.2 x xs).trans (Heap.get?_update_self _ e1 rfl)) hn
    exact (Heap.get?_update_ne _ _ _ _ hb).trans (Heap.get?_push_of_some _ z)
end
section
variable {X : Cx} {pins : List (Addr × Obj)} {σ : L2.St} {H : Hp} {s : Shared} {a C : Addr} {f : Str} {y : V} {u : Value} {Q : Unit → Shared → Prop} {E : Value → Shared → Prop} {A : Around} {B nw ni : String} {bm : List Value}
/-- self.f = y, the first field -/
theorem ost_g (T : ExG X.K C B nw ni bm) (ht : PySem.W.takerIn X.K C f = some none) (I : Inv X pins σ H s) (e : H a = some (exo a C none)) (ry : L2.RelV y u)
    (k : ∀ dx s', H dx = none → dx ≠ a → Inv X pins σ (upd (upd H dx (exd dx [(f, y)])) a (exo a C (some dx))) s' → Q () s') : wpAny (model X.prog X.w) A (setAttr (.ref a) f u) Q E s := by
  obtain ⟨t1, ho⟩ := exo_at I.hok e
  obtain ⟨hp, g, d, t, os⟩ := s
  refine PySem.W.set_plain I.kIn (ox := { cls := .ref C, dict := none, data := .fields #[.ref t1, .none, .none, .none, .bool false, .none] }) (od := none) ⟨ho, rfl, rfl, trivial⟩ T.sa ?_
  refine osa_g T ht I.kIn ho fun h' tk' dx kp dn dne hx hn => ?_
  have fr : H dx = none := I.hok.fresh dn
  have old : ∀ {b : Addr} {o : Obj}, hp.get? b = some o → b ≠ dx := fun {b o} q => Nat.ne_of_lt (Nat.lt_of_lt_of_le (Heap.lt_size q) dn)
  have off : ∀ {b : Addr}, H b = none → b ≠ a := fun {b} z1 z2 => by rw [z2, e] at z1; cases z1
  have U : Un X.fs [] H (upd (upd H dx (exd dx [(f, y)])) a (exo a C (some dx))) hp h' := {
    keep := fun b o z1 z2 _ _ => kp b o (off z2) z1
    slot := fun b o z1 z2 _ _ => ⟨o.slots, kp b o (off z2) z1⟩
    free := fun b o z1 z2 _ => by rw [upd_ne (off z2), upd_ne (old z1), z2]
    there := fun b o z1 _ => if hb : b = a then ⟨_, hb ▸ hx⟩ else ⟨o, kp b o hb z1⟩
    tups := fun b xs z => by rw [upd_ne (at_ne e z exo_tup), upd_ne (ne_of_none z fr), z]
    frzs := fun b o v z => by rw [upd_ne (at_ne e z exo_frz), upd_ne (ne_of_none z fr), z]
    tbls := fun b ps z => ⟨#[], by rw [upd_ne (at_ne e z exo_tbl), upd_ne (ne_of_none z fr), z]; simp⟩ }
  refine k dx _ fr dne (I.un (t' := tk') U fun b o z => ?_)
  by_cases hb : b = a
  · subst hb
    rw [upd_same] at z
    cases z
    exact exo_ok hx
  rw [upd_ne hb] at z
  by_cases hd : b = dx
  · subst hd
    rw [upd_same] at z
    cases z
    exact exd_ok hn (relO_put (fs := []) ry fun g => True.intro)
  rw [upd_ne hd] at z
  refine (I.hok b o z).stay (fun c v hc q => kp c v ?_ q) (fun c hc => ?_) fun c xs hc => ?_
  · exact hc.elim (fun q => q ▸ hb) fun q => at_ne e q exo_own
  · rw [upd_ne (at_ne e hc exo_own), upd_ne (ne_of_none hc fr), hc]
  · rw [upd_ne (at_ne e hc exo_tup), upd_ne (ne_of_none hc fr), hc]
/-- self.f = e -/
def tOsg (K : PySem.W.Frag) (C : Addr) (f : Str) (to te : TE) : TS := fun D σ H => te σ H fun y H1 => to σ H1 fun x H2 => ∃ a : Addr, x = .ref a ∧ H2 a = some (exo a C none) ∧
  ∀ dx, H2 dx = none → dx ≠ a → D.nx σ (upd (upd H2 dx (exd dx [(f, y)])) a (exo a C (some dx)))
theorem ps_osg {o e : Expr} {to te : TE} {p' pos : Pos} (T : ExG X.K C B nw ni bm) (ht : PySem.W.takerIn X.K C f = some none) (ho : PE X o to) (he : PE X e te) (hs : swapsWith e (some (.Attribute o f p')) pos.line X.env = pure false := by rfl) :
    PS X (.Assign [.Attribute o f p'] e pos) (tOsg X.K C f to te) := by
  refine ⟨fun pins s σ H D I h => plainObj_wpAny_Assign_Attribute (thn (he.run pins s σ H _ I h) fun v s1 ⟨y, H1, I1, r1, q1⟩ => thn (ho.run pins s1 σ H1 _ I1 q1) fun u s2 ⟨x, H2, I2, r2, a, ex, ea, q⟩ => ?_) hs⟩
  subst ex
  cases r2
  exact ost_g T ht I2 ea r1 fun dx s' n ne J => ⟨σ, _, J, q dx n ne⟩
end
/-! ### super().__init__(..) -/
/-- what super() wants of the def that runs; x: its first parameter -/
structure Sup (X : Cx) (C : Addr) (x : Str) (ni : String) : Prop where
  gl : Gl X "super"
  mg : X.mg "super" = none
  fr : X.env.kindOf "__class__" = some .free
  cl : ∃ cc oc od sl, X.env.cells.lookup ("__class__" : Str) = some cc ∧ X.K.lookup cc = some ⟨oc, od, .cell (some (.ref C)), sl⟩
  fn : ∃ f oc od fd sl ar, X.env.func = some f ∧ X.K.lookup f = some ⟨oc, od, .func fd, sl⟩ ∧ (fd.params.posonlyargs ++ fd.params.args).head? = some ar ∧ ar.arg = x
  cd : ∃ c oc od vs sl fi tf, X.env.code = .ref c ∧ X.K.lookup c = some ⟨oc, od, .fields vs, sl⟩ ∧ vs[2]? = some (.str fi tf) ∧ ((X.prog.main.file : Str) == fi) = true
  top : (X.prog.main.scope.names.lookup ("super" : Str)).isSome = false
  lc : X.env.kindOf x = some .local
  n0 : X.N[0]? = some x
  mr : PySem.W.mroIn X.K C (.ref C) = some true
  si : PySem.W.ks_superIn X.K C C "__init__" = some (some (.builtin ni))
  op : PySem.W.nsIn X.K cStatics "thirdparty.any" = some none
section
variable {X : Cx} {σ : L2.St} {H : Hp} {s : Shared} {a C : Addr} {x : Str} {B nw ni : String} {bm : List Value} {Qf : Flow → Shared → Prop} {body : List Stmt} {e : Expr} {es : List Expr} {p0 p1 p2 p3 p4 : Pos} {ta : TA} {D : Hp → Prop}
theorem call_mw {A : Around} {E : Value → Shared → Prop} {Q : Value → Shared → Prop} {pins : List (Addr × Obj)} {u : Addr} {us : List Value} (T : ExG X.K C B nw ni bm) (I : Inv X pins σ H s) (ea : H a = some (exo a C none)) (hu : s.heap.get? u = some (PySem.W.kxs_mw ni a)) (hz : us.length ≤ sizeLine)
    (k : ∀ s', Inv X pins σ H s' → Q .none s') : wpAny (model X.prog X.w) A (call (.ref u) us) Q E s := by
  obtain ⟨nm, N', qn, bs, b2, hdct, sn, sub, ab, col, dd, k0, k1, k2, k3, k5, hC, hT⟩ := PySem.W.excInit_of I.kIn T.qq
  obtain ⟨t1, ho⟩ := exo_at I.hok ea
  obtain ⟨hp, g, d, t, os⟩ := s
  refine wpAny_call (codeAny_of_tree (show wpAny _ A.in1 (callAny (.ref u) ⟨us, []⟩) _ _ _ from ?_))
  simp only [callAny]
  refine wpAny_bind (wpAny_load hu ?_)
  simp only [PySem.W.kxs_mw, show (Value.type "method-wrapper" == Value.type "method" || Value.type "method-wrapper" == Value.type "builtin_function_or_method" || Value.type "method-wrapper" == Value.type "method-wrapper") = true by decide, if_true]
  refine PySem.W.KFB.if_so (by decide) (wpAny_bind (PySem.W.check_bound_init T.fb.toExcCallFacts hC ho rfl (wpAny_bind (wpAny_pure (wpAny_pure ?_)))))
  refine ⟨plainId_quiet T.fb.init.plain _, codeAny_builtin T.fb.initEntry ?_⟩
  refine PySem.W.exc_init_tree (cls := .ref C) (t0 := t1) (dv := none) (c2 := .none) (c3 := .none) (b4 := .bool false) ho hz fun h' kp e' _ => ?_
  have J := I.write (t' := t) (x := a) (e := a) (o := exo a C none) (by rw [ea]; exact True.intro) (.inl rfl) kp ⟨_, e'⟩ (exo_ok e')
  have eu : upd H a (exo a C none) = H := by
    funext b
    by_cases hb : b = a
    · rw [hb, upd_same, ea]
    · rw [upd_ne hb]
  rw [eu] at J
  exact k _ J
theorem sup_stmt (S : Sup X C x ni) (T : ExG X.K C B nw ni bm) (ha : PA X (e :: es) ta) (I : Inv X [] σ H s) (h0 : σ[0]? = some (some (.ref a))) (ea : H a = some (exo a C none))
    (hq : ta σ H fun vs H1 => vs.length ≤ 1000 ∧ H1 a = some (exo a C none) ∧ D H1) (k : ∀ s' H1, Inv X [] σ H1 s' → D H1 → Qf .next s') {pl : Sem Bool}
    (hi : interactive X.env = false) (hsw : swapsWith (.Call (.Attribute (.Call (.Name "super" p0) [] [] p1) "__init__" p2) (e :: es) [] p3) none p4.line X.env = pure false)
    (hev : eval (.Call (.Attribute (.Call (.Name "super" p0) [] [] p1) "__init__" p2) (e :: es) [] p3) X.env = (do
      let ov ← attributeBase (.Call (.Name "super" p0) [] [] p1) "__init__" X.env (eval (.Call (.Name "super" p0) [] [] p1) X.env)
      standAt p2.atName
      let (f, first) ← holding [ov] (getMethod ov "__init__" pl)
      callWith p3 f first (backTo p3 (starEach (e :: es) X.env)) []))
    (he : starEach (e :: es) X.env = (false, eval e X.env) :: starEach es X.env) (hpl : (backTo p3 (starEach es X.env)).any (·.1) = false) :
    _root_.PySem.wpAt (model X.prog X.w) X.A (.func body X.env) (exec (.Expr (.Call (.Attribute (.Call (.Name "super" p0) [] [] p1) "__init__" p2) (e :: es) [] p3) p4) X.env) Qf X.xe s := by
  obtain ⟨cc, occ, odc, slc, cl1, cl2⟩ := S.cl
  obtain ⟨f, oc, od, fd, sl, ar, f1, f2, f3, f4⟩ := S.fn
  obtain ⟨c, occ', odc', vs', slc', fi, tf, c1, c2, c3, c4⟩ := S.cd
  obtain ⟨cd, hc⟩ : ∃ cd, PySem.W.clsIn X.K C = some cd := by
    obtain ⟨cd, h1, _⟩ := PySem.W.any_some T.hd
    exact ⟨cd, h1⟩
  have hs2 : PySem.W.alongIn X.K "__init__" ((cd.mro.dropWhile (· != .ref C)).drop 1) = some (some (.builtin ni)) := by
    have z := S.si
    unfold PySem.W.ks_superIn at z
    rw [hc] at z
    exact z
  obtain ⟨oD, hD1, hD2⟩ : ∃ oD, s.heap.get? C = some oD ∧ oD.data = .cls cd := by
    have z := hc
    unfold PySem.W.clsIn at z
    split at z
    · rename_i q1 q2 q3 q4 ho
      cases z
      exact ⟨_, I.kIn _ _ ho, rfl⟩
    · cases z
  obtain ⟨t1, ho⟩ := exo_at I.hok ea
  have hne : a ≠ C := fun z => by
    rw [z, hD1] at ho
    cases ho
    cases hD2
  refine ks_wpAt_Expr_any (ks_wpAt_MethodCall (pl := pl) ?_ hev) hi hsw
  refine ks_wpAt_super_base S.gl S.fr rfl f1 (I.kIn _ _ f2) rfl f3 c1 (I.kIn _ _ c2) rfl c3 c4 S.top ?_
  obtain ⟨mb, b1, b2⟩ := I.mod.blt
  refine PySem.W.ks_loadName_global I.ok.kind S.gl (Calls.loadGlobal_builtin (by rw [I.ok.glob]; exact I.mod.glob.keeps I.bk) S.mg (by rw [I.ok.blt]; exact b1.keeps I.bk) ((b2 "super" (by decide)).trans (by decide +kernel)) ⟨rfl, ?_⟩)
  refine wpAny_loadName_free (v := .ref C) I.ok.kind S.fr cl1 ⟨_, I.kIn _ _ cl2, rfl⟩ ?_
  obtain ⟨m, hn, hl⟩ := I.loc
  obtain ⟨u0, ru, lk⟩ := hl 0 x (.ref a) S.n0 h0 (.inl S.lc)
  cases ru
  rw [f4]
  refine wpAny_loadName_local (v := .ref a) I.ok.kind S.lc hn (lk.elim (fun z => z.2) fun z => by
    have y := S.lc
    rcases z.1 with q | q <;> · rw [q] at y; cases y) ?_
  have X0 := I.kIn
  have hmr : ∀ {h : Heap}, X.K.In h → PySem.W.Looks (model X.prog X.w) h (mroOf (.ref C)) cd.mro := fun {h} k => (PySem.W.looks_clsIn k hc).andThen .now
  refine ks_wpAny_isType_cls hD1 hD2 ⟨rfl, ?_⟩
  obtain ⟨hp, g, d, t, os⟩ := s
  refine ks_wpAny_call_super hD1 hD2 ho rfl (fun c z => by cases z) (PySem.W.looks_mroIn X0 S.mr) fun h' hso kp => ?_
  have I1 : Inv X [] σ H ⟨h', g, d, t, os⟩ := I.kept (t' := t) kp
  have ea1 := kp _ _ ho
  refine PySem.W.kxs_getMethod (l₀ := cd.mro) T.kf hso (PySem.W.looks_opaque I1.kIn S.op) (hmr I1.kIn) rfl I1.kIn hs2 (PySem.W.InstAt.type (ox := { cls := .ref C, dict := none, data := .fields #[.ref t1, .none, .none, .none, .bool false, .none] }) (od := none) ⟨ea1, rfl, rfl, trivial⟩ |>.andThen (PySem.W.looks_subIn I1.kIn T.sB)) hne (by decide) ?_
  have kp2 : ∀ b o, h'.get? b = some o → (h'.push (PySem.W.kxs_mw ni a)).get? b = some o := fun b o z => Heap.get?_push_of_some _ z
  have I2 : Inv X [] σ H ⟨h'.push (PySem.W.kxs_mw ni a), g, d, t + 1, os⟩ := I1.kept (t' := t + 1) kp2
  have hu : (h'.push (PySem.W.kxs_mw ni a)).get? h'.objs.size = some (PySem.W.kxs_mw ni a) := Heap.get?_push_size _ rfl
  have I3 : Inv X [(h'.objs.size, PySem.W.kxs_mw ni a)] σ H ⟨h'.push (PySem.W.kxs_mw ni a), g, d, t + 1, os⟩ := I2.pins_of fun p hp => by
    rw [List.mem_singleton.mp hp]
    exact ⟨hu, I1.hok.fresh (Nat.le_refl _), fun z => absurd I1.lt (by show ¬ X.env.locals < h'.objs.size; rw [← z]; exact Nat.lt_irrefl _), I1.nofs (Nat.le_refl _), fun v z => by cases z⟩
  dsimp only
  rw [he]
  refine PySem.W.kxs_callWith (i := ni) (u := h'.objs.size) (x := a) (by show (false || (backTo p3 (starEach es X.env)).any (·.1)) = false; rw [hpl]; rfl) (Calls.evalArgs_plain ?_)
  have hrun := ha.run p3 [(h'.objs.size, PySem.W.kxs_mw ni a)] _ σ H _ I3 hq
  rw [he] at hrun
  refine wpAny_mono hrun (fun us s1 ⟨vs, H1, I4, r, hz, ea4, q⟩ => ?_) fun _ _ z => z
  have hu4 : s1.heap.get? h'.objs.size = some (PySem.W.kxs_mw ni a) := (I4.pin _ (List.mem_append_right _ List.mem_cons_self)).1
  refine ⟨hu4, ?_⟩
  refine call_mw (us := us) T I4 ea4 hu4 (by rw [← Paired.length r, sizeLine_eq]; omega) fun s' J => k s' H1 (J.pins_of fun p hp => absurd hp (by simp)) q
end
/-! ### the def, and raising -/
section
variable {CX : CXT} {P : Program} {w : World} {K : PySem.W.Frag} {mg : Str → Option Value} {base : Heap} {N ps : List Str} {F : NF} {f C cc : Addr} {k : Nat} {sp : Sp} {B nw ni : String} {bm : List Value} {x : Str} {e : Expr} {es : List Expr} {rest : List Stmt} {p0 p1 p2 p3 p4 : Pos} {pl : Env → Sem Bool}
/-- a def that begins with super().__init__(..) -/
theorem fn_sup {oc oc2 doc pm ct : Value} {od od2 : Option Addr} {sl sl2 : Array (Option Value)} (S : NScope N ps ["__class__"] F.scope) (lk : K.lookup f = some ⟨oc, od, .func (F.fd doc pm ct), sl⟩) (hcd : PySem.W.codeIn K (.ref F.c) F.qual = true)
    (hcl : F.cl = [(("__class__" : Str), cc)]) (lc : K.lookup cc = some ⟨oc2, od2, .cell (some (.ref C)), sl2⟩) (T : ExG K C B nw ni bm) (len : ∀ vs H Q E, sp vs H Q E → vs.length = ps.length)
    (hb : F.body = .Expr (.Call (.Attribute (.Call (.Name "super" p0) [] [] p1) "__init__" p2) (e :: es) [] p3) p4 :: rest)
    (hS : ∀ (A : Around) (outer : List Env) (s : Shared) (H : Hp) (E : XK), Sup (ncx CX P w K mg base N F f A outer s H E) C x ni)
    (hi : ∀ L, interactive (envF F f L) = false) (hsw : ∀ L, swapsWith (.Call (.Attribute (.Call (.Name "super" p0) [] [] p1) "__init__" p2) (e :: es) [] p3) none p4.line (envF F f L) = pure false)
    (hev : ∀ L, eval (.Call (.Attribute (.Call (.Name "super" p0) [] [] p1) "__init__" p2) (e :: es) [] p3) (envF F f L) = (do
      let ov ← attributeBase (.Call (.Name "super" p0) [] [] p1) "__init__" (envF F f L) (eval (.Call (.Name "super" p0) [] [] p1) (envF F f L))
      standAt p2.atName
      let (g, first) ← holding [ov] (getMethod ov "__init__" (pl (envF F f L)))
      callWith p3 g first (backTo p3 (starEach (e :: es) (envF F f L))) []))
    (he : ∀ L, starEach (e :: es) (envF F f L) = (false, eval e (envF F f L)) :: starEach es (envF F f L)) (hpl : ∀ L, (backTo p3 (starEach es (envF F f L))).any (·.1) = false)
    (hbody : ∀ (A : Around) (outer : List Env) (s : Shared) (H : Hp) (vs : List V) (Q : VK) (E : XK), Room k (A.deeper (envF F f s.heap.objs.size)) → sp vs H Q E →
      ∃ a ta tr, (startF N vs [some (.ref C)])[0]? = some (some (.ref a)) ∧ H a = some (exo a C none) ∧ PA (ncx CX P w K mg base N F f A outer s H E) (e :: es) ta ∧ PSs (ncx CX P w K mg base N F f A outer s H E) rest tr ∧
        ta (startF N vs [some (.ref C)]) H fun us H1 => us.length ≤ 1000 ∧ H1 a = some (exo a C none) ∧ tr { nx := fun _ H' => Q .non H', rt := Q } (startF N vs [some (.ref C)]) H1) :
    FnOk P w K mg base CX (k + 1) f (F.fd doc pm ct) ps sp := by
  refine ⟨len, fun A outer s H args us vs Q E hr e0 hbd r hsp => ?_⟩
  have hl := len _ _ _ _ hsp
  have kb : ∀ b o, base.get? b = some o → s.heap.get? b = some o := fun b o z => (e0.bs b o z).1
  have KX : K.In s.heap := e0.mod.kin.keeps kb
  have C0 : CellsAt F.cl ["__class__"] [some (.ref C)] s.heap H := by
    have ic : s.heap.IsCell cc (some (.ref C)) := ⟨_, KX _ _ lc, rfl⟩
    have on : ∀ y c, F.cl.lookup y = some c → y = "__class__" ∧ c = cc := fun y c z => by
      rw [hcl] at z
      by_cases q : y = "__class__"
      · subst q
        exact ⟨rfl, (Option.some.inj z).symm⟩
      · simp [List.lookup, show (y == ("__class__" : Str)) = false by simpa using q] at z
    refine ⟨rfl, fun y c z => ?_, fun y z c h1 h2 => (on _ _ h1).1.trans (on _ _ h2).1.symm, fun i y z => ?_⟩
    · obtain ⟨_, rfl⟩ := on _ _ z
      exact ⟨(e0.bs _ _ (e0.mod.kin _ _ lc)).2, _, ic⟩
    · match i, z with
      | 0, z =>
        cases z
        refine ⟨cc, by rw [hcl]; rfl, fun v q => ?_⟩
        cases q
        exact ⟨.ref C, rfl, ic⟩
      | i + 1, z => simp at z
  refine ks_codeAny_call_defAt (fd := F.fd doc pm ct) (body := F.body) hr.depth (KX _ _ lk) rfl (e0.mod.nolimit.keeps kb) (PySem.W.codeRec_of KX hcd) rfl hbd S.nocell (fun ⟨n, _⟩ hy => S.par n (List.of_mem_zip hy).1) (fun h₁ hns kp => ?_) S.co S.gen S.kind
  show _root_.PySem.wpAt _ (A.deeper (envF F f s.heap.objs.size)) (.func F.body (envF F f s.heap.objs.size)) (execs F.body (envF F f s.heap.objs.size)) _ _ _
  obtain ⟨a, ta, tr, h0, ea, ha, ht, hq⟩ := hbody A outer s H vs Q E (hr.deeper _) hsp
  have I : Inv (ncx CX P w K mg base N F f A outer s H E) [] (startF N vs [some (.ref C)]) H { s with heap := h₁, toks := s.toks + (ps.zip us).length } := inv_startN S hr.hd e0 hl r C0 hns kp
  have bd : ∀ b, _root_.PySem.wpAt (model P w) (A.deeper (envF F f s.heap.objs.size)) (.func b (envF F f s.heap.objs.size)) (execs F.body (envF F f s.heap.objs.size)) (fun fl s' => CR CX outer P w H s Q E (.ok (.ret (match fl with | .ret v => v | _ => .none))) s')
      (fun e s' => wpAny (model P w) (A.deeper (envF F f s.heap.objs.size)) (leaving (envF F f s.heap.objs.size) e) (fun _ s'' => CR CX outer P w H s Q E (.error e) s'') (fun e' s'' => CR CX outer P w H s Q E (.error e') s'') s') { s with heap := h₁, toks := s.toks + (ps.zip us).length } := fun b => by
    rw [hb]
    refine ks_wpAt_execs_cons (sup_stmt (D := fun H1 => tr { nx := fun _ H' => Q .non H', rt := Q } (startF N vs [some (.ref C)]) H1) (hS A outer s H E) T ha I h0 ea hq (fun s1 H1 J q => ?_) (pl := pl _) (hi _) (hsw _) (hev _) (he _) (hpl _))
    refine wpAt_of_wpAny (wpAny_mono (ht.run [] s1 _ H1 _ J q) (fun fl s' hs => ?_) fun _ _ z => z)
    have fin : ∀ {σ' : L2.St} {H' : Hp} {v : V} {u : Value}, Inv (ncx CX P w K mg base N F f A outer s H E) [] σ' H' s' → L2.RelV v u → Q v H' → CE outer P w H s Q u s' := fun {σ' H' v u} J rv q => ⟨v, H', J.os, J.bare, J.base, J.hok, rv, q⟩
    cases fl with
    | ret u => obtain ⟨v, σ', H', J, rv, q⟩ := hs; exact fin J rv q
    | next => obtain ⟨σ', H', J, q⟩ := hs; exact fin (v := V.non) (u := Value.none) J rfl q
    | brk => obtain ⟨_, _, _, q⟩ := hs; exact False.elim q
    | cont => obtain ⟨_, _, _, q⟩ := hs; exact False.elim q
  exact bd F.body
end
section
variable {X : Cx} {CX : CXT} {x : Str} {C fI : Addr} {k : Nat} {fd : FuncData} {ps : List Str} {sp : Sp} {B nw ni : String} {bm : List Value} {e : Expr} {es : List Expr} {p pos : Pos} {ta : TA}
/-- C(e, ..), its own __init__ keeping sp -/
theorem pmk_g (T : ExG X.K C B nw ni bm) (iC : PySem.W.findIn X.K (.ref C) "__init__" = some (some (.ref fI))) (tI : PySem.W.typeIn X.K (.ref fI) = some (.type "function")) (F1 : FnOk X.prog X.w X.K X.mg X.base CX k fI fd ps sp) (hr : Room (k + 1) X.A) (hb : Binds X.K fd ps [])
    (hx : Passes CX X (fun _ _ _ => False)) (hg : Gl X x) (hm : X.mg x = some (.ref C)) (ha : PA X (e :: es) ta) (hdb : (x == ("__debug__" : Str)) = false := by decide) (he : starEach (e :: es) X.env = (false, eval e X.env) :: starEach es X.env := by rfl)
    (hpl : (backTo pos (starEach es X.env)).any (·.1) = false := by rfl) : PMk X (.Call (.Name x p) (e :: es) [] pos) (tMkO C sp [] ta) := by
  intro pins s σ H Q I h
  refine wpAny_Call_Name_kw (ld_glob I hg hm ?_ hdb)
  refine PySem.W.callWith_K (h₀ := X.base) I.ok.mod.kin T.kC (thn (ha.run pos pins s σ H _ I h) fun us s1 ⟨vs, H1, I1, r1, hz, q1⟩ => ⟨I1.kIn, ?_⟩) he hpl
  show wpAny _ _ (call (.ref C) us) _ _ _
  obtain ⟨nm, N', qn, bs, b2, hdct, sn, sub, ab, col, dd, k0, k1, k2, k3, k5, hC, hT⟩ := PySem.W.excInit_of I1.kIn T.qq
  obtain ⟨hp, g, dr, tk, os⟩ := s1
  have le1 : hp.objs.size ≤ hp.objs.size + 1 := Nat.le_succ _
  have hq := q1 (hp.objs.size + 1) (I1.hok.fresh le1)
  have kk : ∀ b o, hp.get? b = some o → ((hp.push (PySem.W.kdv_tup us)).push (HandSPX.excO C hp.objs.size)).get? b = some o := fun b o z => Heap.get?_push_of_some _ (Heap.get?_push_of_some _ z)
  have gt : ((hp.push (PySem.W.kdv_tup us)).push (HandSPX.excO C hp.objs.size)).get? (hp.objs.size + 1) = some (HandSPX.excO C hp.objs.size) := by heap_get
  have I2 : Inv X pins σ (upd H1 (hp.objs.size + 1) (exo (hp.objs.size + 1) C none)) ⟨(hp.push (PySem.W.kdv_tup us)).push (HandSPX.excO C hp.objs.size), g, dr, tk, os⟩ := I1.laid (t' := tk) kk le1 (exo_ok gt)
  have r2 : Vals (V.ref (hp.objs.size + 1) :: (vs ++ [])) (Value.ref (hp.objs.size + 1) :: us) := by rw [List.append_nil]; exact .cons rfl r1
  have hl : (Value.ref (hp.objs.size + 1) :: us).length = ps.length := by
    rw [← r2.length]
    exact F1.len _ _ _ _ hq
  refine wpAny_call (HandSPX.call_own T.fb hT hC (PySem.W.looks_findIn I1.kIn iC) (fun self => PySem.W.bind_fn I1.kIn self tI) (by rw [← Paired.length r1, sizeLine_eq]; omega)
    (codeAny_mono (F1.run _ X.stack _ _ ⟨Value.ref (hp.objs.size + 1) :: us, []⟩ _ _ _ (fun _ _ _ => False) (hr.make C us []) (I2.env0.make C us []) (by
      have z := hb ⟨(hp.push (PySem.W.kdv_tup us)).push (HandSPX.excO C hp.objs.size), g, dr, tk, os⟩ (Value.ref (hp.objs.size + 1) :: us) I2.kIn (by simpa using hl)
      simpa using z) r2 hq) fun r s' hq' => ?_))
  cases r with
  | error er => exact hx pins σ _ _ er s' I2 hq'
  | ok fl =>
    cases fl with
    | ret u =>
      obtain ⟨v, H2, os2, bare2, un2, hok2, rv, rfl, d, fs, ea, ed, hd1, q2⟩ := hq'
      obtain ⟨h2, g2, d2, t2, os'⟩ := s'
      exact ⟨rv, mk_end (raises_own T.exC T.tyC) I1 le1 kk un2 hok2 os2 bare2 ea ed hd1 q2⟩
    | next => exact False.elim hq'
    | brk => exact False.elim hq'
    | cont => exact False.elim hq'
end
end Si
/-! xs != ys where the items are equal by an own ==: False. -/
namespace No
open PySem PySem.SeqAt
open AutoSeq1 (wpAny_loadPart')
open MeetsSeq MeetsSeq2 MeetsSeq3 SeqRoads2
section
variable {prog : Program} {w : World} {A : Around} {R : Result → Shared → Prop}
theorem ne_walk (l b : Addr) (N : Nat) (I : Nat → Shared → Prop) (hl : GQ.ListI prog w A (fun e s' => R (.error e) s') l b N I) (fin : ∀ s, I N s → R (.ok (.ret (.bool false))) s) :
    ∀ (k i : Nat), i + k = N → ∀ s, I i s → wpAny (model prog w) A.in1 (Builtin.«list.__eq__.loop» ⟨[.ref l, .ref b, rawInt i, rawInt 3], []⟩) (GQ.FinOf prog w A R) (fun e s' => R (.error e) s') s
  | 0, i, hk, s, h => by
    have hi : i = N := hk
    subst hi
    obtain ⟨xs, ys, n, n2, h1, h2, z1, z2, _⟩ := hl _ _ h
    have hR := fin s h
    obtain ⟨hp, g, d, tk, os⟩ := s
    wp_walk using wpAny_loadPart' h1, wpAny_loadPart' h2
    rw [show xs[((i : Nat) : Int).toNat]? = none by simp [z1], show ys[((i : Nat) : Int).toNat]? = none by simp [z2]]
    wp_walk using wpAny_loadPart' h1, wpAny_loadPart' h2
    show R (.ok (.ret (.bool (xs.size != ys.size)))) _
    rw [z1, z2]
    simpa using hR
  | k + 1, i, hk, s, h => by
    obtain ⟨xs, ys, n, n2, h1, h2, z1, z2, turn⟩ := hl _ _ h
    have a1 : i < xs.size := by omega
    have a2 : i < ys.size := by omega
    have ht := turn a1 a2
    obtain ⟨hp, g, d, tk, os⟩ := s
    wp_walk using wpAny_loadPart' h1, wpAny_loadPart' h2
    rw [show xs[((i : Nat) : Int).toNat]? = some xs[i] by simp [a1], show ys[((i : Nat) : Int).toNat]? = some ys[i] by simp [a2]]
    refine wpAny_bind (wpAny_mono ht (fun r s2 q => ?_) fun _ _ x => x)
    obtain ⟨rfl, q⟩ := q
    have rec_ := ne_walk l b N I hl fin k (i + 1) (by omega) s2 q
    obtain ⟨hp2, g2, d2, tk2, os2⟩ := s2
    wp_walk
    rw [show ((i : Int) + 1) = ((i + 1 : Nat) : Int) by omega]
    exact ⟨plainId_quiet plain_eq_loop _, codeAny_builtin entry_eq_loop (by rw [Around.under_plainId plain_eq_loop _]; exact rec_)⟩
theorem ne_list (l b : Addr) (N : Nat) (I : Nat → Shared → Prop) (hl : GQ.ListI prog w A (fun e s' => R (.error e) s') l b N I) (fin : ∀ s, I N s → R (.ok (.ret (.bool false))) s) {s : Shared} (h : I 0 s) :
    wpAny (model prog w) A.in1 (Builtin.«list.__ne__» ⟨[.ref l, .ref b], []⟩) (GQ.FinOf prog w A R) (fun e s' => R (.error e) s') s := by
  obtain ⟨xs, ys, n, n2, h1, h2, z1, z2, _⟩ := hl _ _ h
  have rec_ := ne_walk l b N I hl fin N 0 (by omega) s h
  obtain ⟨hp, g, d, tk, os⟩ := s
  have f3 := AutoSeq1.sub_list_list
  have hne : ¬ (xs.size != ys.size) = true := by simp [z1, z2]
  wp_walk using wpAny_loadPart' h1, wpAny_loadPart' h2
  exact ⟨plainId_quiet plain_eq_loop _, codeAny_builtin entry_eq_loop (by rw [Around.under_plainId plain_eq_loop _]; exact rec_)⟩
end
theorem rich_ne {prog : Program} {w : World} {A : Around} {E : Value → Shared → Prop} {s : Shared} {l b : Addr} {N : Nat} {Q : Value → Shared → Prop} (hu : A.units < cLine) (I : Nat → Shared → Prop) (hl : GQ.ListI prog w A E l b N I)
    (fin : ∀ s, I N s → Q (.bool false) s) (h : I 0 s) : wpAny (model prog w) A (richCompare .NotEq (.ref l) (.ref b)) Q E s := by
  obtain ⟨xs, ys, n, n2, h1, h2, _, _, _⟩ := hl _ _ h
  refine wpAny_richCompare_same_room (op := .NotEq) ⟨_, h1, rfl⟩ ⟨_, h2, rfl⟩ F.slot_list_ne (GQ.call_here F.slot_list_ne ⟨_, h1, rfl⟩ F.entry_list_ne (F.args_list_ne_2 _ _) ?_) hu
  exact ne_list (R := wants (fun v s' => v ≠ .notImplemented ∧ Q v s') E) l b N I hl (fun s' q => ⟨(fun x => nomatch x), fin s' q⟩) h
end No
namespace No
open PySem PySem.Spec PyProof.Rows L2
section
variable {X : Cx} {n : Nat} {D : Eqv}
/-- xs != ys, all items equal -/
def rNeOwn (D : Eqv) : R2 := fun x y H Q => (∃ a b xs ys, x = .ref a ∧ y = .ref b ∧ H a = some (.lst xs) ∧ H b = some (.lst ys) ∧ Prs D xs ys H) ∧ ∀ H', Ext H H' → Q (.bl false) H'
theorem op_neOwn (hD : Mon D) (h : EqG X n D) (hr : Room (n + 1) X.A) : OpR X (compareOp .NotEq) (rNeOwn D) := by
  intro pins s σ H x y v u Q I rx ry hq
  obtain ⟨⟨a, b, xs, ys, rfl, rfl, ha, hb, p⟩, q⟩ := hq
  obtain rfl : v = Value.ref a := rx
  obtain rfl : u = Value.ref b := ry
  have sb : Sub X (n + 1) X.A := ⟨hr, rfl⟩
  show wpAny (model X.prog X.w) X.A (richCompare .NotEq (.ref a) (.ref b)) (EP X pins σ Q) X.xe s
  refine rich_ne (N := xs.length) hr.units0 (fun _ s' => LoopI X pins σ H s') (fun i s' z => ?_) (fun s' z => ?_) ⟨H, I, Ext.rfl'⟩
  · obtain ⟨H1, I1, e1⟩ := id z
    obtain ⟨y1, its, k, r, e⟩ := I1.hok a _ (e1 _ _ ha)
    obtain ⟨y2, its2, k2, r2, e2⟩ := I1.hok b _ (e1 _ _ hb)
    exact ⟨its.toArray, its2.toArray, k, k2, e, e2, by rw [List.size_toArray, ← r.length], by rw [List.size_toArray, ← r2.length, ← p.1], fun h1 h2 => turnG hD h sb p r r2 i h1 h2 s' z⟩
  · obtain ⟨H1, I1, e1⟩ := z
    exact ⟨.bl false, H1, I1, rfl, q H1 e1⟩
end
end No
/-! == of lists of unlike length; None in a list of instances with their own ==. -/
namespace El
open PySem PySem.SeqAt
open AutoSeq1 (wpAny_loadPart')
open MeetsSeq MeetsSeq2 MeetsSeq3 SeqRoads2
section
variable {prog : Program} {w : World} {A : Around} {R : Result → Shared → Prop}
/-- no item is equal to x -/
def InI (prog : Program) (w : World) (A : Around) (E : Value → Shared → Prop) (l : Addr) (x : Value) (N : Nat) (I : Nat → Shared → Prop) : Prop :=
  ∀ i s, I i s → ∃ (xs : Array Value) (n : Nat), s.heap.get? l = some { cls := .type "list", data := .seq xs n } ∧ xs.size = N ∧
    ∀ (h1 : i < xs.size), wpAny (model prog w) A.in1 (eqBool xs[i] x) (fun r s' => r = false ∧ I (i + 1) s') E s
theorem in_walk (l : Addr) (x : Value) (N : Nat) (I : Nat → Shared → Prop) (hl : InI prog w A (fun e s' => R (.error e) s') l x N I) (fin : ∀ s, I N s → R (.ok (.ret (.bool false))) s) :
    ∀ (k i : Nat), i + k = N → ∀ s, I i s → wpAny (model prog w) A.in1 (Builtin.«list.__contains__.loop» ⟨[.ref l, x, rawInt i], []⟩) (GQ.FinOf prog w A R) (fun e s' => R (.error e) s') s
  | 0, i, hk, s, h => by
    have hi : i = N := hk
    subst hi
    obtain ⟨xs, n, h1, z1, _⟩ := hl _ _ h
    have hR := fin s h
    obtain ⟨hp, g, d, tk, os⟩ := s
    wp_walk using wpAny_loadPart' h1
    rw [show xs[((i : Nat) : Int).toNat]? = none by simp [z1]]
    wp_walk using wpAny_loadPart' h1
    exact hR
  | k + 1, i, hk, s, h => by
    obtain ⟨xs, n, h1, z1, turn⟩ := hl _ _ h
    have a1 : i < xs.size := by omega
    have ht := turn a1
    obtain ⟨hp, g, d, tk, os⟩ := s
    wp_walk using wpAny_loadPart' h1
    rw [show xs[((i : Nat) : Int).toNat]? = some xs[i] by simp [a1]]
    refine wpAny_bind (wpAny_mono ht (fun r s2 q => ?_) fun _ _ x => x)
    obtain ⟨rfl, q⟩ := q
    have rec_ := in_walk l x N I hl fin k (i + 1) (by omega) s2 q
    obtain ⟨hp2, g2, d2, tk2, os2⟩ := s2
    wp_walk
    rw [show ((i : Int) + 1) = ((i + 1 : Nat) : Int) by omega]
    exact ⟨plainId_quiet plain_contains_loop _, codeAny_builtin entry_contains_loop (by rw [Around.under_plainId plain_contains_loop _]; exact rec_)⟩
theorem in_list (l : Addr) (x : Value) (N : Nat) (I : Nat → Shared → Prop) (hl : InI prog w A (fun e s' => R (.error e) s') l x N I) (fin : ∀ s, I N s → R (.ok (.ret (.bool false))) s) {s : Shared} (h : I 0 s) :
    wpAny (model prog w) A.in1 (Builtin.«list.__contains__» ⟨[.ref l, x], []⟩) (GQ.FinOf prog w A R) (fun e s' => R (.error e) s') s := by
  obtain ⟨xs, n, h1, z1, _⟩ := hl _ _ h
  have rec_ := in_walk l x N I hl fin N 0 (by omega) s h
  obtain ⟨hp, g, d, tk, os⟩ := s
  wp_walk using wpAny_loadPart' h1
  exact ⟨plainId_quiet plain_contains_loop _, codeAny_builtin entry_contains_loop (by rw [Around.under_plainId plain_contains_loop _]; exact rec_)⟩
end
theorem op_in {prog : Program} {w : World} {A : Around} {E : Value → Shared → Prop} {s : Shared} {l : Addr} {x : Value} {N : Nat} {Q : Value → Shared → Prop} (I : Nat → Shared → Prop) (hl : InI prog w A E l x N I)
    (fin : ∀ s, I N s → Q (.bool false) s) (h : I 0 s) : wpAny (model prog w) A (compareOp .In x (.ref l)) Q E s := by
  obtain ⟨xs, n, h1, _, _⟩ := hl _ _ h
  show wpAny _ A (do return .bool (← contains (.ref l) x)) Q E s
  refine wpAny_bind (wpAny_contains_slot ⟨_, h1, rfl⟩ F.slot_list_contains (wpAny_mono (GQ.call_here F.slot_list_contains ⟨_, h1, rfl⟩ F.entry_list_contains (F.args_list_contains_2 _ _) (in_list (R := wants (fun v s' => v = .bool false ∧ Q (.bool false) s') E) l x N I hl (fun s' q => ⟨rfl, fin s' q⟩) h)) (fun v s' hv => ?_) fun _ _ e => e))
  obtain ⟨rfl, hq⟩ := hv
  exact wpAny_truthy_bool (wpAny_pure hq)
end El
namespace El
open PySem PySem.Spec PyProof.Rows L2
section
variable {X : Cx}
/-- xs == ys, lists of unlike length -/
def rEqLen (K : PySem.W.Frag) : R2 := fun x y H Q => ∃ a b xs ys, x = .ref a ∧ y = .ref b ∧ SqL K H a xs ∧ SqL K H b ys ∧ xs.length ≠ ys.length ∧ Q (.bl false) H
theorem op_eqLen (hu : X.A.units < cLine) : OpR X (compareOp .Eq) (rEqLen X.K) := by
  intro pins s σ H x y v u Q I rx ry h
  obtain ⟨a, b, xs, ys, rfl, rfl, ha, hb, hn, q⟩ := h
  cases rx
  cases ry
  obtain ⟨its, rv, hl, _⟩ := I.list ha
  obtain ⟨its2, rv2, hl2, _⟩ := I.list hb
  refine SeqAt.eq_list_lengthsAt hl.isList hl2.isList ?_ hu ⟨.bl false, H, I, rfl, q⟩
  rw [List.size_toArray, List.size_toArray, ← rv.length, ← rv2.length]
  simpa using hn
variable {CX : CXT} {k : Nat} {C f : Addr} {fd : FuncData} {ps : List Str} {sp : Sp} {E : XK}
/-- None in a list of instances of C, none of which is equal to None by its own == -/
def rNonIn (C : Addr) (sp : Sp) (E : XK) : R2 := fun x y H Q => ∃ l xs, x = .non ∧ y = .ref l ∧ H l = some (.lst xs) ∧
  (∀ z, z ∈ xs → ∃ a dx fs, z = .ref a ∧ H a = some (.ins C dx fs)) ∧ (∀ z, z ∈ xs → ∀ H1, Ext H H1 → sp [z, .non] H1 (fun v H2 => v = .bl false ∧ Ext H1 H2) E) ∧ ∀ H', Ext H H' → Q (.bl false) H'
theorem op_nonIn (F : FnOk X.prog X.w X.K X.mg X.base CX k f fd ps sp) (hr : Room (k + 1) X.A) (hn : PySem.W.notFirst X.K C (.type "NoneType") = true) (hs : PySem.W.findIn X.K (.ref C) "__eq__" = some (some (.ref f))) (hf : PySem.W.isFn X.K (.ref f) = true) (hb : Binds X.K fd ps []) (hx : Passes CX X E) :
    OpR X (compareOp .In) (rNonIn C sp E) := by
  intro pins s σ H x y v u Q I rx ry h
  obtain ⟨l, xs, rfl, rfl, ha, hi, hp, q⟩ := h
  obtain rfl : v = Value.none := rx
  obtain rfl : u = Value.ref l := ry
  refine op_in (N := xs.length) (fun _ s' => LoopI X pins σ H s') (fun i s' z => ?_) (fun s' z => ?_) ⟨H, I, Ext.rfl'⟩
  · obtain ⟨H1, I1, e1⟩ := z
    obtain ⟨y1, its, n, r, e⟩ := I1.hok l _ (e1 _ _ ha)
    refine ⟨its.toArray, n, e, by rw [List.size_toArray, ← r.length], fun h1 => ?_⟩
    have h1' : i < its.length := by simpa using h1
    have k1 : i < xs.length := by rw [r.length]; exact h1'
    obtain ⟨t, ht, rt⟩ := r.get (List.getElem?_eq_getElem k1)
    have g1 : its[i]? = some its.toArray[i] := by rw [List.getElem?_eq_getElem h1'] <;> simp
    rw [g1] at ht
    rw [Option.some.inj ht]
    obtain ⟨a, dx, fs, ez, hz⟩ := hi _ (List.getElem_mem k1)
    have sp1 := hp _ (List.getElem_mem k1) H1 e1
    rw [ez] at rt sp1
    obtain rfl : t = Value.ref a := rt
    have hz1 := e1 _ _ hz
    obtain ⟨mA, J, _⟩ := ins_get I1.hok hz1
    obtain ⟨od, J, _⟩ := J.look
    obtain ⟨m, hF⟩ := I1.fr
    obtain ⟨P, kx, hP, _⟩ := kit_of I1 (show RelV .non Value.none from rfl) (TyX.base .non)
    have hr1 : Room k X.A.in1 := hr.in1
    unfold eqBool
    refine wpAny_holding ?_
    refine wpAny_ite_split (fun hab => absurd (eq_of_beq hab) (fun z => nomatch z)) (fun _ => ?_)
    refine wpAny_bind (PySem.W.cmp_K (op := .Eq) (tb := .type "NoneType") hr1.units0 hF I1.ok.mod.kin J (kx.ty _ _ I1.kIn hP) hn hs hf (wpAny_mono (Ow.run_own F hr1 I1.env0.in1 hb hx I1 (vs := [.ref a, .non]) (.cons (show RelV (.ref a) (.ref a) from rfl) (.cons (show RelV .non Value.none from rfl) .nil)) sp1) (fun w s2 hq => ?_) fun _ _ z => z))
    obtain ⟨z, H2, I2, rw', rfl, e2⟩ := hq
    cases rw'
    exact wpAny_truthy_bool ⟨rfl, H2, I2, e1.trans e2⟩
  · obtain ⟨H1, I1, e1⟩ := z
    exact ⟨.bl false, H1, I1, rfl, q H1 e1⟩
end
end El
/-! repr of a list of instances with their own __repr__, where no repr is under way. -/
namespace Rp
open PySem PySem.Spec PyProof.Rows L2
section
variable {prog : Program} {w : World} {A : Around} {E : Value → Shared → Prop} {s : Shared} {K : PySem.W.Frag} {x C f : Addr} {ox : Obj} {od : Option Obj}
theorem by_own {M : Model} {name : Str} {last : Value → List Value → Sem Value} {Q : Option Value → Shared → Prop} (X : K.In s.heap) (I : PySem.W.InstAt s.heap x ox C od) (hs : PySem.W.findIn K (.ref C) name = some (some (.ref f))) (hf : PySem.W.isFn K (.ref f) = true)
    (h : wpAny M A (last (.ref f) [.ref x]) (fun v => Q (some v)) E s) : wpAny M A (callSpecialIfBoundBy? last (.ref x) name) Q E s := by
  have lk := PySem.W.looks_findIn (M := M) X hs
  have fin : wpAny M A (last (.ref f) [.ref x] >>= fun v => pure (some v)) Q E s := by
    refine wpAny_bind (wpAny_mono h (fun v s' q => ?_) fun _ _ q => q)
    exact wpAny_pure q
  have bd := (PySem.W.bind_fn (M := M) X (.ref x) (beq_iff_eq.mp hf))
  simp only [callSpecialIfBoundBy?, bindSpecialIfBound?]
  refine wpAny_holding (wpAny_bind (wpAny_bind (wpAny_bind (I.type.here (lk.here ?_)))))
  refine wpAny_bind (wpAny_askSetting (wpAny_ite ?_))
  split
  · exact wpAny_bind (bd.here (wpAny_pure (by exact fin)))
  · exact wpAny_tryCatch (wpAny_bind (bd.here (wpAny_pure (by exact fin))))
theorem under_own {b : Nat} {Q : Str → Shared → Prop} (hb : b ≤ sizeLine) (hu : A.units < cLine) (X : K.In s.heap) (I : PySem.W.InstAt s.heap x ox C od) (hs : PySem.W.findIn K (.ref C) "__repr__" = some (some (.ref f))) (hf : PySem.W.isFn K (.ref f) = true)
    (h : wpAny (model prog w) A (call (.ref f) [.ref x]) (fun v s' => ∃ m u, v = .str m u ∧ Q m s') E s) : wpAny (model prog w) A (pyReprUnder b (.ref x)) Q E s := by
  refine wpAny_pyReprUnder_ref hb ?_
  unfold pyReprObjUnder pyReprObjBy
  refine wpAny_bind (wpAny_cRoomFor hu ?_)
  refine wpAny_bind (wpAny_bind (I.type.here ((PySem.W.looks_findIn X hs).here ?_)))
  show wpAny _ _ (if (some (Value.ref f)).isNone = true then _ else _) _ _ _
  rw [if_neg (by simp)]
  refine wpAny_bind (by_own X I hs hf ?_)
  show wpAny _ _ (call (.ref f) ([.ref x] ++ [])) _ _ _
  refine wpAny_mono h (fun v s' hv => ?_) fun _ _ z => z
  obtain ⟨m, u, rfl, hq⟩ := hv
  refine wpAny_bind (wpAny_isInstance (T := "str") (b := true) rfl isSubtype_str_str ?_)
  first
    | exact wpAny_pure ⟨m, u, rfl, hq⟩
    | (rw [if_pos rfl]; exact wpAny_pure ⟨m, u, rfl, hq⟩)
end
section
variable {X : Cx} {n : Nat} {pins : List (Addr × Obj)} {σ : L2.St} {H : Hp} {s : Shared}
/-- what the own __repr__ promises: the text t for the instance a -/
def spRepr (R : Addr → Str → Hp → Prop) : Sp := fun vs H Q _ => ∃ a t, vs = [.ref a] ∧ R a t H ∧ ∀ H', Ext H H' → Q (.str t) H'
theorem run_repr {CX : CXT} {C f a dx : Addr} {fd : FuncData} {ps : List Str} {R : Addr → Str → Hp → Prop} {E : XK} {A : Around} {t : Str} {fs : List (Str × V)} (F : FnOk X.prog X.w X.K X.mg X.base CX n f fd ps (spRepr R)) (hb : Binds X.K fd ps []) (hx : Passes CX X E)
    (sb : Sub X n A) (I : Inv X pins σ H s) (hr : R a t H) : wpAny (model X.prog X.w) A (call (.ref f) [.ref a]) (fun v s' => ∃ m u, v = .str m u ∧ m = t ∧ ∃ H', Inv X pins σ H' s' ∧ Ext H H') X.xe s := by
  have hsp : spRepr R [.ref a] H (fun v H' => v = .str t ∧ Ext H H') E := ⟨a, t, rfl, hr, fun H' e => ⟨rfl, e⟩⟩
  have e0 : Env0 X.prog X.w X.K X.mg X.base A X.stack s H := by
    have e := I.env0
    exact ⟨by rw [sb.fr]; exact e.frames, e.mod, e.bs, e.bsz, e.funs, e.frf, e.hok, e.bare⟩
  have hl := F.len _ _ _ _ hsp
  have r2 : Vals [V.ref a] [Value.ref a] := .cons rfl .nil
  refine wpAny_call (codeAny_mono (F.run A X.stack s H ⟨[.ref a], []⟩ [.ref a] [.ref a] _ E sb.room e0 (by
    have := hb s [.ref a] I.kIn (by simpa using hl)
    simpa using this) r2 hsp) fun r s' hq => ?_)
  cases r with
  | error e => exact hx pins σ H s e s' I hq
  | ok fl =>
    cases fl with
    | ret w =>
      obtain ⟨z, H', I', rz, ez, ex⟩ := I.after hq
      subst ez
      obtain ⟨u, rfl⟩ := rz
      exact ⟨t, u, rfl, rfl, H', I', ex⟩
    | next => exact False.elim hq
    | brk => exact False.elim hq
    | cont => exact False.elim hq
theorem under_run {CX : CXT} {C f a dx : Addr} {fd : FuncData} {ps : List Str} {R : Addr → Str → Hp → Prop} {E : XK} {A : Around} {t : Str} {fs : List (Str × V)} {b : Nat} (F : FnOk X.prog X.w X.K X.mg X.base CX n f fd ps (spRepr R)) (hb : Binds X.K fd ps []) (hx : Passes CX X E)
    (hs : PySem.W.findIn X.K (.ref C) "__repr__" = some (some (.ref f))) (hf : PySem.W.isFn X.K (.ref f) = true) (sb : Sub X n A) (I : Inv X pins σ H s) (ha : H a = some (.ins C dx fs)) (hr : R a t H) (hz : b ≤ sizeLine) :
    wpAny (model X.prog X.w) A (pyReprUnder b (.ref a)) (fun m s' => m = t ∧ ∃ H', Inv X pins σ H' s' ∧ Ext H H') X.xe s := by
  obtain ⟨mA, J, _⟩ := ins_get I.hok ha
  obtain ⟨od, J, _⟩ := J.look
  exact under_own hz sb.room.units0 I.kIn J hs hf (run_repr (dx := dx) (fs := fs) (C := C) F hb hx sb I hr)
/-- the pinned list of parts grows -/
theorem bump {P : Addr} {acc : Array Value} {c : Nat} {v : Value} (I : Inv X ((P, lstObj acc c) :: pins) σ H s) (hP : X.s_0.heap.objs.size ≤ P) (hp : ∀ p ∈ X.pn ++ pins, p.1 ≠ P) :
    ∃ c', Inv X ((P, lstObj (acc.push v) c') :: pins) σ H { s with heap := s.heap.update P (Obj.mapSeq (·.push v)) } := by
  obtain ⟨h1, h2, h3, h4, h5⟩ := I.pin (P, lstObj acc c) (List.mem_append_right _ List.mem_cons_self)
  have I0 : Inv X pins σ H s := I.pins_of fun p hp => I.pin p (List.mem_append_right _ (List.mem_cons_of_mem _ hp))
  have hc : ∀ x c', X.env.cells.lookup x = some c' → c' ≠ P := fun x c' e z => by
    obtain ⟨w, o, ho, hd⟩ := I.cell x c' e
    rw [z, h1] at ho
    cases ho
    exact h5 _ hd
  have J := I0.turned (t' := s.toks) (it := P) (h' := s.heap.update P (Obj.mapSeq (·.push v))) (fun b o hb e => (Heap.get?_update_other _ _ (Ne.symm hb)).trans e) h2 h3 (.inr hP) hc hp
  obtain ⟨c', e⟩ : ∃ c', (s.heap.update P (Obj.mapSeq (·.push v))).get? P = some (lstObj (acc.push v) c') := ⟨_, Heap.get?_update_self _ h1 rfl⟩
  refine ⟨c', J.pins_of fun p hp' => ?_⟩
  rcases List.mem_cons.mp hp' with z | z
  · rw [z]
    exact ⟨e, h2, h3, h4, fun v q => by cases q⟩
  · exact J.pin p (List.mem_append_right _ z)
theorem room_loop {k : Nat} {A : Around} {args : Args} (r : Room (k + 1) A) : Room k (A.under (.builtin "list.__repr__.loop" args)) ∧ (A.under (.builtin "list.__repr__.loop" args)).frames = A.frames := by
  have hu : (A.under (.builtin "list.__repr__.loop" args)).units = A.units + 1 := units_under_list_loop A args
  have hh : (A.under (.builtin "list.__repr__.loop" args)).handled = A.handled := rfl
  have hd : (A.under (.builtin "list.__repr__.loop" args)).depth ≤ A.depth + 1 := by
    show A.depth + (Code.builtin "list.__repr__.loop" args).weight ≤ A.depth + 1
    have hw : (Code.builtin "list.__repr__.loop" args).weight ≤ 1 := by
      simp [Code.weight, Code.isCreation, Code.isCaller, Code.frames, Code.isFrame]
      try (split <;> omega)
    omega
  have hf : (A.under (.builtin "list.__repr__.loop" args)).frames = A.frames := by
    first | rfl | (show pushEnvs _ A.frames = _; cases A.frames <;> rfl) | simp [Around.under, Code.envs, pushEnvs]
  refine ⟨⟨hh.trans r.hd, ?_, ?_⟩, hf⟩
  · have := r.dp; omega
  · have := r.un; omega
theorem loop_own {CX : CXT} {C f : Addr} {fd : FuncData} {ps : List Str} {R : Addr → Str → Hp → Prop} {E : XK} {A : Around} {l P : Addr} {as : List Addr} {ts : List Str} {Q : VK} (Fr : FnOk X.prog X.w X.K X.mg X.base CX n f fd ps (spRepr R)) (hb : Binds X.K fd ps []) (hx : Passes CX X E)
    (hs : PySem.W.findIn X.K (.ref C) "__repr__" = some (some (.ref f))) (hf : PySem.W.isFn X.K (.ref f) = true) (sb : Sub X (n + 1) A) (hR : ∀ a t H H', Ext H H' → R a t H → R a t H') (hP : X.s_0.heap.objs.size ≤ P) (hp : ∀ p ∈ X.pn ++ pins, p.1 ≠ P)
    (hl : H l = some (.lst (as.map V.ref))) (hT : ∀ (i : Nat) (a : Addr), as[i]? = some a → ∃ t dx fs, ts[i]? = some t ∧ H a = some (.ins C dx fs) ∧ R a t H) (hlen : ts.length = as.length) (hsz : (listText ts).length ≤ sizeLine) (hQ : ∀ H', Ext H H' → Q (.str (listText ts)) H') :
    ∀ (k i : Nat) (s : Shared) (H' : Hp) (acc : Array Value) (c : Nat) (done : List (Str × Tok)), as.length - i = k → i ≤ as.length → Ext H H' → Inv X ((P, lstObj acc c) :: pins) σ H' s → acc.toList = strValues done → done.map (·.1) = ts.take i →
      codeAny (model X.prog X.w) A (.builtin "list.__repr__.loop" ⟨[.ref l, rawInt i, .ref P, rawInt ((piled (ts.take i) : Nat) : Int)], []⟩) (wants (fun v s' => ∃ x u, v = .str x u ∧ EP X pins σ Q v s') X.xe) s := by
  have hp3 := piled_le_listText ts
  have hL := textFrom_len ts 0 "["
  have hX : (listText ts).length = (textFrom 0 "[" ts).length + 1 := by
    show (textFrom 0 "[" ts ++ "]").length = _
    rw [strLen_append]
    rfl
  have hz2 : ∀ t ∈ ts, t.length ≤ sizeLine := fun t ht => by
    have := hL.2.1 t ht
    omega
  have hz1 : as.length ≤ sizeLine := by
    have h1 := hL.1
    rw [if_neg (Nat.lt_irrefl 0)] at h1
    omega
  intro k
  induction k with
  | zero =>
    intro i s H' acc c done hk hi he I hacc hdone
    have hin : i = as.length := by omega
    obtain ⟨_, its, z, r, e⟩ := I.hok l _ (he _ _ hl)
    have hlenI : its.length = as.length := by rw [← r.length, List.length_map]
    have pP := (I.pin (P, lstObj acc c) (List.mem_append_right _ List.mem_cons_self)).1
    refine codeAny_builtin PySem.F.entry_list_repr_loop ?_
    show wpAny _ _ (Builtin.«list.__repr__.loop» ⟨[.ref l, .int i 0, .ref P, .int ((piled (ts.take i) : Nat) : Int) 0], []⟩) _ _ s
    rw [repr_loop_tree]
    refine wpAny_bind (wpAny_listItems e rfl ?_)
    have hno : its.toArray[(i : Int).toNat]? = none := by
      rw [Int.toNat_natCast]
      simp [hin, hlenI]
    simp only [hno]
    unfold reprEnd
    refine wpAny_bind (wpAny_listItems pP rfl ?_)
    rw [hacc, repr_fold]
    refine wpAny_bind (wpAny_pure ?_)
    have hall : done.map (·.1) = ts := by rw [hdone, hin, ← hlen, List.take_length]
    rw [hall]
    refine wpAny_bind (wpAny_mkStr (wpAny_pure ?_) hsz)
    have I1 : Inv X pins σ H' s := I.pins_of fun p hp => I.pin p (List.mem_append_right _ (List.mem_cons_of_mem _ hp))
    exact ⟨_, _, rfl, .str (listText ts), H', I1.tok _, ⟨_, rfl⟩, hQ H' he⟩
  | succ k ih =>
    intro i s H' acc c done hk hi he I hacc hdone
    have hlt : i < as.length := by omega
    obtain ⟨t, dx, fs, ht, ha, hrt⟩ := hT i as[i] (List.getElem?_eq_getElem hlt)
    obtain ⟨_, its, z, r, e⟩ := I.hok l _ (he _ _ hl)
    obtain ⟨u, hu, ru⟩ := r.get (i := i) (x := V.ref as[i]) (by rw [List.getElem?_map, List.getElem?_eq_getElem hlt]; rfl)
    cases ru
    have hp1 := piled_take_succ ht
    have hp2 := piled_take_le ts (i + 1)
    refine codeAny_builtin PySem.F.entry_list_repr_loop ?_
    show wpAny _ _ (Builtin.«list.__repr__.loop» ⟨[.ref l, .int i 0, .ref P, .int ((piled (ts.take i) : Nat) : Int) 0], []⟩) _ _ s
    rw [repr_loop_tree]
    refine wpAny_bind (wpAny_listItems e rfl ?_)
    have hso : its.toArray[(i : Int).toNat]? = some (.ref as[i]) := by
      rw [Int.toNat_natCast]
      simpa using hu
    simp only [hso]
    rw [Int.toNat_natCast]
    obtain ⟨rm, fr⟩ := room_loop (args := ⟨[.ref l, rawInt i, .ref P, rawInt ((piled (ts.take i) : Nat) : Int)], []⟩) sb.room
    refine wpAny_bind (wpAny_holding (wpAny_mono (under_run Fr hb hx hs hf ⟨rm, fr.trans sb.fr⟩ I (he _ _ ha) (hR _ _ _ _ he hrt) (by omega)) (fun m s2 hm => ?_) fun _ _ q => q))
    obtain ⟨rfl, H2, I2, e2⟩ := hm
    refine wpAny_bind (wpAny_mkStr ?_ (hz2 m (List.mem_of_getElem? ht)))
    have I3 := I2.tok (s2.toks + 1)
    have pP := (I3.pin (P, lstObj acc c) (List.mem_append_right _ List.mem_cons_self)).1
    refine wpAny_bind ?_
    show wpAny _ _ (updateSeq P _) _ _ _
    have hasz : acc.size ≤ sizeLine := by
      have n1 : acc.toList.length = acc.size := by simp
      have n2 : (strValues done).length = done.length := by simp [strValues]
      have n3 : done.length = (ts.take i).length := by rw [← hdone, List.length_map]
      have n4 : (ts.take i).length ≤ i := by rw [List.length_take]; omega
      rw [hacc] at n1
      omega
    refine wpAny_updateSeq pP rfl (wpAny_pure ⟨PySem.F.quiet_list_repr_loop _, ?_⟩) hasz
    obtain ⟨c', I4⟩ := bump (v := .str m s2.toks) I3 hP hp
    have n1 : ((i : Int) + 1) = ((i + 1 : Nat) : Int) := by omega
    have n2 : piled (ts.take i) + (m.length + 2) = piled (ts.take (i + 1)) := by omega
    rw [n1, n2]
    exact ih (i + 1) _ H2 (acc.push (.str m s2.toks)) c' (done ++ [(m, s2.toks)]) (by omega) hlt (he.trans e2) I4 (by simp [hacc, strValues]) (by simp [List.take_add_one, ht, hdone])
/-- repr of a list of instances -/
def rReprL (C : Addr) (R : Addr → Str → Hp → Prop) : List V → Hp → VK → Prop := fun xs H Q => ∃ (l : Addr) (as : List Addr) (ts : List Str), xs = [.ref l] ∧ H l = some (.lst (as.map V.ref)) ∧ (∀ (i : Nat) (a : Addr), as[i]? = some a → ∃ t dx fs, ts[i]? = some t ∧ H a = some (.ins C dx fs) ∧ R a t H) ∧
  ts.length = as.length ∧ (listText ts).length ≤ sizeLine ∧ ∀ H', Ext H H' → Q (.str (listText ts)) H'
theorem call_reprL {CX : CXT} {C f : Addr} {fd : FuncData} {ps : List Str} {R : Addr → Str → Hp → Prop} {E : XK} (Fr : FnOk X.prog X.w X.K X.mg X.base CX n f fd ps (spRepr R)) (hb : Binds X.K fd ps []) (hx : Passes CX X E)
    (hs : PySem.W.findIn X.K (.ref C) "__repr__" = some (some (.ref f))) (hf : PySem.W.isFn X.K (.ref f) = true) (hr : Room (n + 2) X.A) (hg : X.A.guards = some []) (hR : ∀ a t H H', Ext H H' → R a t H → R a t H') : CallR X (.builtin "repr") (rReprL C R) := by
  intro pins s σ H xs us Q I r h
  obtain ⟨l, as, ts, rfl, hl, hT, hlen, hsz, hQ⟩ := h
  cases r with
  | cons rx rr =>
    cases rr
    cases rx
    obtain ⟨_, its, z, rv, e⟩ := I.hok l _ hl
    have hlI : its.length = as.length := by rw [← rv.length, List.length_map]
    have ty : s.TypeIs (.ref l) "list" := ⟨_, e, rfl⟩
    refine call_repr_slot (T := "list") (idr := "list.__repr__") (by have := hr.un; omega) ty PySem.F.slot_list_repr.toG ?_
    cases its with
    | nil =>
      have ha : as = [] := List.length_eq_zero_iff.mp hlI.symm
      have htn : ts = [] := List.length_eq_zero_iff.mp (by rw [hlen, ha]; rfl)
      subst ha htn
      refine call_list_repr_empty ty e rfl ?_
      refine ⟨_, _, rfl, .str (listText []), H, I.tok _, ⟨_, by rw [listText_nil]⟩, hQ H Ext.rfl'⟩
    | cons y ys =>
      refine GQ.call_here PySem.F.slot_list_repr ty PySem.F.entry_list_repr (PySem.F.args_list_repr_1 _) ?_
      show wpAny _ _ (Builtin.listReprAt 0 ⟨[.ref l], []⟩) _ _ s
      refine wpAny_list_repr_head (g := []) hg (fun v rest kw hm => by cases hm) e rfl ?_
      refine wpAny_bind (m := newList []) (wpAny_newObj_type ?_)
      have hP : (s.heap.push { cls := .type "list", data := .seq #[] }).get? s.heap.objs.size = some { cls := .type "list", data := .seq #[] } := Heap.get?_push_size _ rfl
      have I1 := ClX.pin_new (t' := s.toks) I (fun b u q => Heap.get?_push_of_some _ q) (Nat.le_refl _) hP (fun v q => by cases q)
      refine wpAny_pure ⟨PySem.F.quiet_list_repr_loop _, ?_⟩
      have hr1 : Room (n + 1) X.A.in1 := hr.in1
      exact loop_own (A := X.A.in1) Fr hb hx hs hf ⟨hr1, rfl⟩ hR I.sz (fun p hp => Nat.ne_of_lt (Heap.lt_size (I.pin p hp).1)) hl hT hlen hsz hQ _ 0 _ H #[] _ [] rfl (Nat.zero_le _) Ext.rfl' I1 rfl (by simp)
end
end Rp
/-! len(range(n)); repr of one instance with its own __repr__. -/
namespace Lr
open PySem PySem.Spec PyProof.Rows L2
section
variable {X : Cx} {e : Expr} {tr : L2.St → Hp → (Int → Int → Hp → Prop) → Prop} {p pos : Pos}
def tLenRg (tr : L2.St → Hp → (Int → Int → Hp → Prop) → Prop) : TE := fun σ H Q => tr σ H fun a b H1 => 0 ≤ b - a ∧ b - a < 2 ^ 63 ∧ Q (.int (b - a)) H1
theorem pe_lenRg (hg : Gl X "len") (hm : X.mg "len" = none) (he : PRg X e tr) (na : starEach [e] X.env = (false, eval e X.env) :: starEach [] X.env := by rfl) : PE X (.Call (.Name "len" p) [e] [] pos) (tLenRg tr) := by
  refine ⟨fun pins s σ H Q I h => ?_⟩
  refine Call_ (ld_blt I hg hm PySem.boot_len (PyProof.Rows.callWith_builtin1 (args_cons (thn (he pins s σ H _ I h) fun x s1 ⟨r, a, b, t, u, v, H1, ex, hr, I1, h0, h1, q⟩ => args_nil ?_) na) na))
  subst ex
  have e1 : Builtin.Range.rangeSize a b 1 = ((b - a).toNat : Nat) := by rw [rangeSize_one]; split <;> omega
  refine call_len_range hr e1 (by omega) ?_
  refine ⟨.int (b - a), H1, I1.tok _, ⟨_, by rw [Int.toNat_of_nonneg h0]⟩, q⟩
end
section
variable {X : Cx} {n : Nat}
/-- repr(o) -/
def rReprO (C : Addr) (R : Addr → Str → Hp → Prop) : List V → Hp → VK → Prop := fun xs H Q => ∃ (a : Addr) (t : Str) (dx : Addr) (fs : List (Str × V)), xs = [.ref a] ∧ H a = some (.ins C dx fs) ∧ R a t H ∧ ∀ H', Ext H H' → Q (.str t) H'
theorem call_reprO {CX : CXT} {C f : Addr} {fd : FuncData} {ps : List Str} {R : Addr → Str → Hp → Prop} {E : XK} (Fr : FnOk X.prog X.w X.K X.mg X.base CX n f fd ps (Rp.spRepr R)) (hb : Binds X.K fd ps []) (hx : Passes CX X E)
    (hs : PySem.W.findIn X.K (.ref C) "__repr__" = some (some (.ref f))) (hf : PySem.W.isFn X.K (.ref f) = true) (hr : Room (n + 1) X.A) : CallR X (.builtin "repr") (rReprO C R) := by
  intro pins s σ H xs us Q I r h
  obtain ⟨a, t, dx, fs, rfl, ha, hR, q⟩ := h
  obtain ⟨u, rfl, ru⟩ := vals1 r
  obtain rfl : u = Value.ref a := ru
  obtain ⟨mA, J, _⟩ := ins_get I.hok ha
  obtain ⟨od, J, _⟩ := J.look
  obtain ⟨m, hF⟩ := I.fr
  refine PySem.W.repr_K (C := C) (f := f) hr.in1.units0 hF I.ok.mod.kin J hs hf (wpAny_mono (Rp.run_repr (C := C) (dx := dx) (fs := fs) Fr hb hx ⟨hr.in1, rfl⟩ I hR) (fun v s' hq => ?_) fun _ _ z => z)
  obtain ⟨m, u, rfl, rfl, H', I', e⟩ := hq
  exact ⟨.str m, H', I', ⟨u, rfl⟩, q H' e⟩
end
end Lr
namespace Sc
open PySem L2
abbrev sWhole : Stmt := s_whole
abbrev sInteger : Stmt := s_integer
abbrev sInit : Stmt := s_Run___init__
abbrev sBetween : Stmt := s_Run_between
abbrev sEnd : Stmt := s_Run_end
/-! ### a run -/
theorem n1 : ¬ (("first" : Str) = "many") := by decide +kernel
def rf (f m : Int) : List (Str × V) := putF "many" (.int m) (putF "first" (.int f) [])
theorem rf_f (f m : Int) : (rf f m).lookup ("first" : Str) = some (.int f) := by
  unfold rf
  rw [lookup_putF, if_neg n1, lookup_putF, if_pos rfl]
theorem rf_m (f m : Int) : (rf f m).lookup ("many" : Str) = some (.int m) := by
  unfold rf
  rw [lookup_putF, if_pos rfl]
theorem rf_no (f m : Int) {x : Str} (h1 : ¬ x = "many") (h2 : ¬ x = "first") : (rf f m).lookup x = none := by
  unfold rf
  rw [lookup_putF, if_neg h1, lookup_putF, if_neg h2]
  all_goals rfl
def RunAt (C : Addr) (H : Hp) (p : Addr) (f m : Int) : Prop := ∃ dx, H p = some (.ins C dx (rf f m))
abbrev Most : Int := 10 ^ 12
/-- what the walk asks of the class and the names -/
structure TR (K : PySem.W.Frag) (mg : Str → Option Value) (C : Addr) (mc : Value) (tM : Tok) : Prop where
  cl : Cls K C
  nF : NoAttr K C "first"
  nM : NoAttr K C "many"
  mgC : mg "Run" = some (.ref C)
  most : mg "_MOST" = some (.int (10 ^ 12) tM)
  isi : mg "isinstance" = none
  int : mg "int" = none
  bool : mg "bool" = none
  range : mg "range" = none
  rd : ClX.CRead K C mc
/-- integer(x): of an int; of a bool; of what is neither -/
def spInteger (K : PySem.W.Frag) : Sp := fun vs H Q _ => ∃ x : V, vs = [x] ∧ ((∃ v, x = .int v ∧ Q (.bl true) H) ∨ (∃ b, x = .bl b ∧ Q (.bl false) H) ∨ ∃ t, TyX K H x t ∧ PySem.W.kitOne K t (.type "int") = some false ∧ Q (.bl false) H)
/-- whole(x, least, most): of an int; of a bool; of what is neither -/
def spWhole (K : PySem.W.Frag) : Sp := fun vs H Q _ => ∃ (x : V) (lo hi : Int), vs = [x, .int lo, .int hi] ∧
  ((∃ v, x = .int v ∧ Q (.bl (decide (lo ≤ v ∧ v ≤ hi))) H) ∨ (∃ b, x = .bl b ∧ Q (.bl false) H) ∨ ∃ t, TyX K H x t ∧ PySem.W.kitOne K t (.type "int") = some false ∧ Q (.bl false) H)
/-- __init__, of numbers within the bounds -/
def spInit (C : Addr) : Sp := fun vs H Q _ => ∃ (p dx : Addr) (f m : Int), vs = [.ref p, .int f, .int m] ∧ H p = some (.ins C dx []) ∧ 0 ≤ f ∧ f ≤ Most ∧ 1 ≤ m ∧ m ≤ Most ∧ Q .non (upd H p (.ins C dx (rf f m)))
def spBetween (C : Addr) : Sp := fun vs H Q _ => ∃ (f e : Int), vs = [.ref C, .int f, .int e] ∧ 0 ≤ f ∧ f ≤ Most ∧ 1 ≤ e - f ∧ e - f ≤ Most ∧ ∀ p dx, H p = none → H dx = none → dx ≠ p → Q (.ref p) (upd (upd H dx (.own p)) p (.ins C dx (rf f (e - f))))
def spEnd (C : Addr) : Sp := fun vs H Q _ => ∃ (p : Addr) (f m : Int), vs = [.ref p] ∧ RunAt C H p f m ∧ Q (.int (f + m)) H
structure Def (K : PySem.W.Frag) (mg : Str → Option Value) (x : Str) (f : Addr) (fd : FuncData) (ps : List Str) : Prop where
  at_ : mg x = some (.ref f)
  kp : PySem.W.keepIn K (.ref f) = true
  bd : Binds K fd ps []
section
variable {P : Program} {w : World} {K : PySem.W.Frag} {mg : Str → Option Value} {base : Heap} {C : Addr} {mc : Value} {tM : Tok}
theorem scInteger : FnScope ["value"] ["value"] (defScope sInteger) := ⟨rfl, rfl, rfl, by decide +kernel, rfl, by decide +kernel, by decide +kernel⟩
theorem ok_integer {f : Addr} {fd : FuncData} (F : Fun K "integer" "integer" sInteger f fd) (T : TR K mg C mc tM) : FnOk P w K mg base CX0 1 f fd ["value"] (spInteger K) := by
  refine F.ok scInteger (fun vs H Q E h => ?_) (fun cdv A outer s H vs Q E hr h => ?_)
  · obtain ⟨x, rfl, _⟩ := h
    rfl
  · obtain ⟨x, rfl, h⟩ := h
    refine ⟨_, pss_one (ps_ret (pe_and (pe_callB call_isi (by rfl) T.isi (by decide +kernel) (pa_cons (pv 0) (pa_cons (pe_bltn (v := .ty "int") (by rfl) T.int (by decide +kernel) rfl) pa_nil)))
      (pe_one (pe_not (pe_callB call_isi (by rfl) T.isi (by decide +kernel) (pa_cons (pv 0) (pa_cons (pe_bltn (v := .ty "bool") (by rfl) T.bool (by decide +kernel) rfl) pa_nil))))))), ?_⟩
    rcases h with ⟨v, rfl, q⟩ | ⟨b, rfl, q⟩ | ⟨t, ty, hk, q⟩
    · refine ⟨_, rfl, _, _, .type "int", .type "int", true, rfl, .ty "int", .base (.int v), kit_ty (by decide +kernel), true, rfl, iteT ?_⟩
      exact ⟨_, rfl, _, _, .type "int", .type "bool", false, rfl, .ty "bool", .base (.int v), kit_ty (by decide +kernel), false, rfl, q⟩
    · refine ⟨_, rfl, _, _, .type "bool", .type "int", true, rfl, .ty "int", .base (.bl b), kit_ty (by decide +kernel), true, rfl, iteT ?_⟩
      exact ⟨_, rfl, _, _, .type "bool", .type "bool", true, rfl, .ty "bool", .base (.bl b), kit_ty (by decide +kernel), true, rfl, q⟩
    · exact ⟨_, rfl, _, _, t, .type "int", false, rfl, .ty "int", ty, hk, false, rfl, iteF q⟩
theorem scWhole : FnScope ["value", "least", "most"] ["value", "least", "most"] (defScope sWhole) := ⟨rfl, rfl, rfl, by decide +kernel, rfl, by decide +kernel, by decide +kernel⟩
theorem ok_whole {f fN : Addr} {fd fdN : FuncData} (F : Fun K "whole" "whole" sWhole f fd) (GN : FnOk P w K mg base CX0 1 fN fdN ["value"] (spInteger K)) (DN : Def K mg "integer" fN fdN ["value"]) : FnOk P w K mg base CX0 2 f fd ["value", "least", "most"] (spWhole K) := by
  refine F.ok scWhole (fun vs H Q E h => ?_) (fun cdv A outer s H vs Q E hr h => ?_)
  · obtain ⟨x, lo, hi, rfl, _⟩ := h
    rfl
  · obtain ⟨x, lo, hi, rfl, h⟩ := h
    refine ⟨_, pss_one (ps_ret (pe_and (pe_call GN hr (by rfl) DN.at_ DN.kp DN.bd .nil pass0 (pa_cons (pv 0) pa_nil)) (pe_one (pe_chain op_le op_le (pv 1) (pv 0) (pv 2))))), ?_⟩
    refine ⟨_, rfl, x, rfl, ?_⟩
    rcases h with ⟨v, rfl, q⟩ | ⟨b, rfl, q⟩ | ⟨t, ty, hk, q⟩
    · refine .inl ⟨v, rfl, true, rfl, iteT ?_⟩
      refine ⟨_, rfl, _, rfl, _, _, rfl, rfl, _, rfl, ite2 (fun h1 => ?_) fun h1 => ?_⟩
      · refine ⟨_, rfl, _, _, rfl, rfl, ?_⟩
        have h1' : lo ≤ v := of_decide_eq_true h1
        have e : decide (lo ≤ v ∧ v ≤ hi) = decide (v ≤ hi) := by
          by_cases z : v ≤ hi <;> simp [z, h1']
        rw [e] at q
        exact q
      · have h1' : ¬ lo ≤ v := of_decide_eq_false (by simpa using h1)
        have e : decide (lo ≤ v ∧ v ≤ hi) = false := decide_eq_false fun z => h1' z.1
        rw [e] at q
        exact q
    · exact .inr (.inl ⟨b, rfl, false, rfl, iteF q⟩)
    · exact .inr (.inr ⟨t, ty, hk, false, rfl, iteF q⟩)
theorem scInit : FnScope ["self", "first", "many"] ["self", "first", "many"] (defScope sInit) := ⟨rfl, rfl, rfl, by decide +kernel, rfl, by decide +kernel, by decide +kernel⟩
theorem ok_init {f fW : Addr} {fd fdW : FuncData} (F : Fun K "__init__" "Run.__init__" sInit f fd) (T : TR K mg C mc tM) (GW : FnOk P w K mg base CX0 2 fW fdW ["value", "least", "most"] (spWhole K)) (DW : Def K mg "whole" fW fdW ["value", "least", "most"]) :
    FnOk P w K mg base CX0 3 f fd ["self", "first", "many"] (spInit C) := by
  refine F.ok scInit (fun vs H Q E h => ?_) (fun cdv A outer s H vs Q E hr h => ?_)
  · obtain ⟨p, dx, f, m, rfl, _⟩ := h
    rfl
  · obtain ⟨p, dx, f, m, rfl, hp, f0, f1, m0, m1, k⟩ := h
    refine ⟨_, pss_cons (ps_if (PW.pt (pw_or (pt_not (pt_val (pe_call GW hr (by rfl) DW.at_ DW.kp DW.bd .nil pass0 (pa_cons (pv 1) (pa_cons pe_int (pa_cons (pe_glob (v := .int (10 ^ 12)) rfl T.most ⟨_, rfl⟩) pa_nil))))))
        (pw_or1 (pt_not (pt_val (pe_call GW hr (by rfl) DW.at_ DW.kp DW.bd .nil pass0 (pa_cons (pv 2) (pa_cons pe_int (pa_cons (pe_glob (v := .int (10 ^ 12)) rfl T.most ⟨_, rfl⟩) pa_nil))))))))) (pss_one ps_never) pss_nil)
      (pss_cons (ps_fld (pv 0) (pv 1) rfl) (pss_one (ps_fld (pv 0) (pv 2) rfl))), ?_⟩
    refine ⟨_, rfl, _, _, _, rfl, .inl ⟨_, rfl, _, rfl, ?_⟩⟩
    have e1 : decide (0 ≤ f ∧ f ≤ 10 ^ 12) = true := decide_eq_true ⟨f0, f1⟩
    have e2 : decide (1 ≤ m ∧ m ≤ 10 ^ 12) = true := decide_eq_true ⟨m0, m1⟩
    rw [e1]
    refine iteF ⟨_, rfl, _, _, _, rfl, .inl ⟨_, rfl, _, rfl, ?_⟩⟩
    rw [e2]
    refine iteF ?_
    refine ⟨_, rfl, _, rfl, p, C, dx, [], rfl, hp, T.cl, T.nF, (by show 0 < 1000; decide), _, rfl, _, rfl, p, C, dx, _, rfl, upd_same, T.cl, T.nM, (by show 1 < 1000; decide), ?_⟩
    rw [upd_upd]
    exact k
theorem scBetween : FnScope ["cls", "first", "end"] ["cls", "first", "end"] (defScope sBetween) := ⟨rfl, rfl, rfl, by decide +kernel, rfl, by decide +kernel, by decide +kernel⟩
theorem ok_between {f fW fI : Addr} {fd fdW fdI : FuncData} (F : Fun K "between" "Run.between" sBetween f fd) (T : TR K mg C mc tM) (GW : FnOk P w K mg base CX0 2 fW fdW ["value", "least", "most"] (spWhole K)) (DW : Def K mg "whole" fW fdW ["value", "least", "most"])
    (M : Mk K C fI) (GI : FnOk P w K mg base CX0 3 fI fdI ["self", "first", "many"] (spInit C)) (bI : Binds K fdI ["self", "first", "many"] []) : FnOk P w K mg base CX0 5 f fd ["cls", "first", "end"] (spBetween C) := by
  refine F.ok scBetween (fun vs H Q E h => ?_) (fun cdv A outer s H vs Q E hr h => ?_)
  · obtain ⟨f, e, rfl, _⟩ := h
    rfl
  · obtain ⟨f, e, rfl, f0, f1, m0, m1, k⟩ := h
    have hr1 : Room 2 _ := hr.mono (by decide)
    refine ⟨_, pss_cons (ps_if (PW.pt (pw_or (pt_not (pt_val (pe_call GW hr1 (by rfl) DW.at_ DW.kp DW.bd .nil pass0 (pa_cons (pv 1) (pa_cons pe_int (pa_cons (pe_glob (v := .int (10 ^ 12)) rfl T.most ⟨_, rfl⟩) pa_nil))))))
        (pw_or1 (pt_not (pt_val (pe_call GW hr1 (by rfl) DW.at_ DW.kp DW.bd .nil pass0 (pa_cons (pv 2) (pa_cons pe_int (pa_cons (pe_op op_mul pe_int (pe_glob (v := .int (10 ^ 12)) rfl T.most ⟨_, rfl⟩)) pa_nil))))))))) (pss_one ps_never) pss_nil)
      (pss_one (ps_ret (Ow.pe_makeL (i := 0) M GI hr rfl (Or.inl rfl) bI .nil pass0 (pa_cons (pv 1) (pa_cons (pe_op op_sub (pv 2) (pv 1)) pa_nil))))), ?_⟩
    refine ⟨_, rfl, _, _, _, rfl, .inl ⟨_, rfl, _, rfl, ?_⟩⟩
    have e1 : decide (0 ≤ f ∧ f ≤ 10 ^ 12) = true := decide_eq_true ⟨f0, f1⟩
    have e2 : decide (1 ≤ e ∧ e ≤ 2 * 10 ^ 12) = true := decide_eq_true (by unfold Most at *; omega)
    rw [e1]
    refine iteF ⟨_, rfl, _, _, rfl, rfl, .inl ⟨by decide, by decide⟩, _, _, _, rfl, .inl ⟨_, rfl, _, rfl, ?_⟩⟩
    rw [e2]
    refine iteF ⟨rfl, _, rfl, _, rfl, _, rfl, _, _, rfl, rfl, fun p dx hp hdx ne => ?_⟩
    refine ⟨p, dx, f, e - f, rfl, upd_same, f0, f1, m0, m1, rfl, ?_⟩
    rw [upd_upd]
    exact k p dx hp hdx ne
theorem scEnd : FnScope ["self"] ["self"] (defScope sEnd) := ⟨rfl, rfl, rfl, by decide +kernel, rfl, by decide +kernel, by decide +kernel⟩
theorem ok_end {f : Addr} {fd : FuncData} (F : Fun K "end" "Run.end" sEnd f fd) (T : TR K mg C mc tM) : FnOk P w K mg base CX0 1 f fd ["self"] (spEnd C) := by
  refine F.ok scEnd (fun vs H Q E h => ?_) (fun cdv A outer s H vs Q E hr h => ?_)
  · obtain ⟨p, f, m, rfl, _⟩ := h
    rfl
  · obtain ⟨p, f, m, rfl, ⟨dx, hp⟩, k⟩ := h
    refine ⟨_, pss_one (ps_ret (pe_op op_add (pe_fld (pv 0) rfl) (pe_fld (pv 0) rfl))), ?_⟩
    exact ⟨_, rfl, p, C, dx, _, _, rfl, hp, T.cl, T.nF, rf_f _ _, _, rfl, p, C, dx, _, _, rfl, hp, T.cl, T.nM, rf_m _ _, _, _, rfl, rfl, k⟩
end
end Sc
/-! A for in a generator's body. -/
namespace Gf
open PySem PySem.Spec PyProof.Rows L2
section
variable {M : Model} {A : Around} {R : GenEnd} {Y : Protocol} {n : Nat} {s₀ : Shared} {c : Code} {fs : List Frame} {s : Shared} {env : Env} {K : Flow → Sem PySem.Fin} {H : Value → Sem PySem.Fin} {gd : Bool → Bool} {lv : List Value → List Value}
theorem seg_For {tg iter : Expr} {body : List Stmt} {pos : Pos} (hs : ∀ x, foldedSetIterable iter env x = pure x)
    (h : wpAny M (A.over c fs) (eval iter env) (fun v s1 => wpAny M (A.over c fs) (pyIter v) (fun itv s2 => ∀ p, Seg M A R Y n s₀ (.forLoop tg itv body [] env) (M.den (.forLoop tg itv body [] env))
      (.ret (fun r => ((match r with | .ok f => (.pure f : Sem Flow) | .error e => .raise e).onRaise (cameBack env)).wrap K H gd lv) none (gd false) (lv []) c p [] :: fs) s2) (fun x s' => Seg M A R Y n s₀ c (H x) fs s') s1) (fun x s' => Seg M A R Y n s₀ c (H x) fs s') s) :
    Seg M A R Y n s₀ c ((exec (.For tg iter body [] pos) env).wrap K H gd lv) fs s := by
  show Seg M A R Y n s₀ c ((standAt pos >>= fun _ => eval iter env >>= fun a => foldedSetIterable iter env a >>= fun x => standAt iter.pos >>= fun _ => holding [x] (pyIter x) >>= fun it => runOwn (.forLoop tg it body [] env) env).wrap K H gd lv) fs s
  refine seg_bind_wrap (wpAny_standAt (seg_bind_wrap (wpAny_mono h (fun v s1 h1 => ?_) fun _ _ z => z)))
  rw [hs]
  refine seg_bind_wrap (wpAny_pure (seg_bind_wrap (wpAny_standAt (seg_bind_wrap (wpAny_holding (wpAny_mono h1 (fun it s2 h2 => ?_) fun _ _ z => z))))))
  exact seg_call h2
end
section
variable {prog : Program} {w : World} {A : Around} {R : GenEnd} {Y : Protocol} {n : Nat} {s₀ : Shared} {fs : List Frame} {s : Shared} {env : Env}
abbrev noted (env : Env) (x : Value) : Sem PySem.Fin := (do noteFrame x env; theTreesLotGoes x : Sem Unit).wrap (fun _ => .raise x) .raise id id
theorem seg_forLoop {tg : Expr} {it : Value} {body : List Stmt}
    (h : wpAny (model prog w) (A.over (.forLoop tg it body [] env) fs) (pyNext it) (fun r s1 => match r with
        | none => Seg (model prog w) A R Y n s₀ (.forLoop tg it body [] env) (.pure (.again (.block [] env))) fs s1
        | some v => wpAny (model prog w) (A.over (.forLoop tg it body [] env) fs) (letOwnedTupleGo tg it v) (fun _ s2 => wpAny (model prog w) (A.over (.forLoop tg it body [] env) fs) (assign tg env v) (fun _ s3 =>
            Seg (model prog w) A R Y n s₀ (.forLoop tg it body [] env) ((execs body env).wrap (fun f => match f with
              | .next | .cont => .pure (.again (.forLoop tg it body [] env))
              | .brk => .pure (.done .next)
              | .ret v => .pure (.done (.ret v))) (noted env) id id) fs s3)
          (fun x s' => Seg (model prog w) A R Y n s₀ (.forLoop tg it body [] env) (noted env x) fs s') s2) (fun x s' => Seg (model prog w) A R Y n s₀ (.forLoop tg it body [] env) (noted env x) fs s') s1)
      (fun x s' => Seg (model prog w) A R Y n s₀ (.forLoop tg it body [] env) (noted env x) fs s') s) :
    Seg (model prog w) A R Y n s₀ (.forLoop tg it body [] env) ((model prog w).den (.forLoop tg it body [] env)) fs s := by
  have hx : ∀ (x : Value) (s' : Shared), Seg (model prog w) A R Y n s₀ (.forLoop tg it body [] env) (noted env x) fs s' → Seg (model prog w) A R Y n s₀ (.forLoop tg it body [] env) ((do noteFrame x env; theTreesLotGoes x : Sem Unit).bind fun _ => .raise x) fs s' := fun x s' z => by
    rw [Sem.bind_eq_wrap]
    exact z
  show Seg _ A R Y n s₀ _ ((forTurn tg it body [] env).onRaise (fun x => do noteFrame x env; theTreesLotGoes x)) fs s
  unfold forTurn
  rw [Sem.onRaise_eq_wrap]
  refine seg_bind_wrap (wpAny_standAt (seg_bind_wrap (wpAny_onRaise (wpAny_mono h (fun r s1 h1 => ?_) fun x s' z => wpAny_standAt (hx x s' z)))))
  cases r with
  | none => exact h1
  | some v =>
    refine seg_bind_wrap (wpAny_mono h1 (fun _ s2 h2 => ?_) fun x s' z => hx x s' z)
    refine seg_bind_wrap (wpAny_mono h2 (fun _ s3 h3 => ?_) fun x s' z => hx x s' z)
    rw [Sem.bind_eq_wrap', Sem.wrap_wrap]
    rw [Sem.wrap_congr (execs body env) _ _ (K' := fun f => match f with
            | .next | .cont => .pure (.again (.forLoop tg it body [] env))
            | .brk => .pure (.done .next)
            | .ret v => .pure (.done (.ret v))) (H' := noted env)
        (fun f => by cases f <;> rfl)
        (fun e => by first | exact Sem.bind_eq_wrap _ _ | (show (do noteFrame e env; theTreesLotGoes e : Sem Unit).bind (fun _ => .raise e) = _; rw [Sem.bind_eq_wrap]))]
    exact h3
/-- the end: no else -/
theorem seg_blockNil {k : Result → Sem PySem.Fin} {h : Option Value} {g : Bool} {l kp : List Value} {c₁ : Code} {p : Pos} {fs : List Frame} (hk : Seg (model prog w) A R Y n s₀ c₁ (k (.ok .next)) fs s) :
    Seg (model prog w) A R Y n s₀ (.block [] env) ((model prog w).den (.block [] env)) (.ret k h g l c₁ p kp :: fs) s := by
  exact seg_leaf (.ok .next) hk
end
end Gf
namespace Gf
open PySem PySem.Spec PyProof.Rows L2
section
variable {X : Cx}
def tGFor (wi : TI) (g : TG) (tb : TGn) : TGn := fun D ys σ H => wi σ H fun J H1 => ∃ W : Nat → Nat → List V → L2.St → Hp → Prop, (∃ m, W 0 m ys σ H1) ∧ ∀ i m ys σ H, W i m ys σ H →
  (J.stop i H ∧ D.nx ys σ H) ∨ (J.go i H ∧ ∃ N : List V → L2.St → Hp → Prop, (∀ ys' σ' H', N ys' σ' H' → ∃ m', m' < m ∧ W (i + 1) m' ys' σ' H') ∧ ∀ x H', J.yld i H x H' → g x σ H' fun σ2 H2 => tb { D with nx := N, ct := N, bk := D.nx } ys σ2 H2)
theorem gs_for {tg iter : Expr} {body : List Stmt} {wi : TI} {g : TG} {tb : TGn} {pos : Pos} (hp : PassesOwn (model X.prog X.w) X.A X.env X.xe) (hc : X.calm = true) (hi : PI X tg iter wi) (hg : PG X tg g) (hb : GSs X body tb)
    (hs : ∀ x, foldedSetIterable iter X.env x = pure x := by intro _; rfl) : GS X (.For tg iter body [] pos) (tGFor wi g tb) := by
  refine ⟨fun A S ip R n ys s₀ c fs K J gd lv s σ H D gc hn k hI ht => ?_⟩
  obtain ⟨acc0, c0, r0, I0⟩ := hI
  refine seg_For hs ?_
  rw [gc.over]
  refine wpAny_mono (hi.run _ s σ H _ I0 ht) (fun v s1 h1 => wpAny_mono h1 (fun itv s2 h2 => ?_) fun x s' hx => k.exc n s₀ x s' hx) fun x s' hx => k.exc n s₀ x s' hx
  obtain ⟨it, fp, tn, Jt, H2, e, I2, T, st2, f2, W, ⟨m0, w0⟩, turn⟩ := h2
  subst e
  intro p
  have gl := fun (ip' : List (Addr × Obj)) (h : ∀ q ∈ ip', q.1 ≠ S) (kk : Result → Sem PySem.Fin) => gc_loop (k := kk) (c' := .forLoop tg (.ref it) body [] X.env) (l := lv []) (kp := []) (p := p) (⟨gc.pn, h, gc.apart, gc.over, gc.split, gc.guard, gc.gd⟩ : GC X S ip' A c fs gd) rfl rfl
  have fS : ∀ b ∈ fp, b ≠ S := fun b hb z => (f2 b hb).2.2.2.2.2 (S, lstObj acc0 c0) (List.mem_append_right _ List.mem_cons_self) z.symm
  have stat : ∀ {H' : Hp} {acc : Array Value} {cc : Nat}, (∀ b ∈ fp, H' b = none) → ∀ b ∈ fp, FpOk X ((S, lstObj acc cc) :: ip) H' b := fun {H' acc cc} hn' b hb => by
    obtain ⟨_, q1, q2, q3, q4, q5⟩ := f2 b hb
    refine ⟨hn' b hb, q1, q2, q3, q4, fun q hq => ?_⟩
    rcases List.mem_append.mp hq with z | z
    · exact q5 q (List.mem_append_left _ z)
    · rcases List.mem_cons.mp z with z | z
      · rw [z]; exact (fS b hb).symm
      · exact q5 q (List.mem_append_right _ (List.mem_cons_of_mem _ z))
  have ee : ∀ (n : Nat) (s₀ : Shared) (x : Value) (s' : Shared), X.xe x s' → Seg (model X.prog X.w) A R (GY X S) n s₀ (.forLoop tg (.ref it) body [] X.env) (noted X.env x)
      (.ret (fun r => ((match r with | .ok f => (.pure f : Sem Flow) | .error e => .raise e).onRaise (cameBack X.env)).wrap K J gd lv) none (gd false) (lv []) c p [] :: fs) s' := fun n s₀ x s' hx => by
    refine seg_wrap ?_
    rw [(gl ip gc.ip _).over]
    refine wpAny_bind (wpAny_mono (hp x s' hx) (fun _ s'' hcb => wpAny_theTreesLotGoes ?_) fun y s'' hcb => ?_)
    · exact seg_leaf (.error x) (seg_cameBack gc k hcb)
    · exact seg_leaf (.error y) (seg_cameBack gc k hcb)
  have loop : ∀ (m i n : Nat) (ys : List V) (s₀ s : Shared) (σ : L2.St) (H : Hp), n + ys.length = sizeLine → W i m ys σ H → GI X S ip ys σ H s → tn i s.heap → (∀ b ∈ fp, H b = none) →
      Seg (model X.prog X.w) A R (GY X S) n s₀ (.forLoop tg (.ref it) body [] X.env) ((model X.prog X.w).den (.forLoop tg (.ref it) body [] X.env))
        (.ret (fun r => ((match r with | .ok f => (.pure f : Sem Flow) | .error e => .raise e).onRaise (cameBack X.env)).wrap K J gd lv) none (gd false) (lv []) c p [] :: fs) s := by
    intro m
    induction m using Nat.strongRecOn with
    | ind m ih =>
      intro i n ys s₀ s σ H hn w hI st3 fr3
      obtain ⟨acc, cc, r, I3⟩ := hI
      refine seg_forLoop ?_
      rw [(gl ip gc.ip _).over]
      rcases turn i m ys σ H w with ⟨stop, qn⟩ | ⟨go, N, hN, step⟩
      · refine wpAny_mono (T.done X rfl rfl rfl hc i _ s σ H X.xe I3 (stat fr3) st3 stop) (fun r' s4 ⟨hr, I4⟩ => ?_) fun x s' hx => ee n s₀ x s' hx
        subst hr
        exact seg_again rfl (seg_blockNil (k.ok n ys s₀ s4 .next hn ⟨σ, H, ⟨acc, cc, r, I4⟩, qn⟩))
      · refine wpAny_mono (T.item X rfl rfl rfl hc i _ s σ H X.xe I3 (stat fr3) st3 go) (fun r' s4 ⟨u, hr, h4⟩ => ?_) fun x s' hx => ee n s₀ x s' hx
        subst hr
        refine wpAny_mono h4 (fun _ s5 ⟨x, H5, I5, r5, y5, st5, fr5⟩ => ?_) fun x s' hx => ee n s₀ x s' hx
        have I5' := I5.pinned (stat fr5) (T.obj _ _ st5)
        refine wpAny_mono (hg.run _ s5 σ H5 x u _ I5' r5 (step x H5 y5)) (fun _ s6 ⟨σ6, H6, I6, q6⟩ => ?_) fun x s' hx => ee n s₀ x s' hx
        have hip : ∀ q ∈ ip ++ pinsAt fp s5.heap, q.1 ≠ S := fun q hq => by
          rcases List.mem_append.mp hq with z | z
          · exact gc.ip q z
          · exact fS _ (of_pinsAt z).1
        have after : ∀ {σ7 : L2.St} {H7 : Hp} {ys' : List V} {s7 : Shared}, GI X S (ip ++ pinsAt fp s5.heap) ys' σ7 H7 s7 → GI X S ip ys' σ7 H7 s7 ∧ tn (i + 1) s7.heap ∧ ∀ b ∈ fp, H7 b = none := fun {σ7 H7 ys' s7} z => by
          obtain ⟨acc7, c7, r7, I7⟩ := z
          refine ⟨⟨acc7, c7, r7, Inv.unpinned (pins := (S, lstObj acc7 c7) :: ip) (pl := pinsAt fp s5.heap) I7⟩, T.keep _ _ _ st5 fun b hb o e => ?_, fun b hb => ?_⟩
          · exact (I7.pin (b, o) (List.mem_append_right _ (List.mem_cons_of_mem _ (List.mem_append_right _ (mem_pinsAt hb e))))).1
          · obtain ⟨o, e, d⟩ := T.obj _ _ st5 b hb
            exact (I7.pin (b, o) (List.mem_append_right _ (List.mem_cons_of_mem _ (List.mem_append_right _ (mem_pinsAt hb e))))).2.1
        refine hb.run A S (ip ++ pinsAt fp s5.heap) R n ys s₀ _ _ _ _ id id s6 σ6 H6 { D with nx := N, ct := N, bk := D.nx } (gl _ hip _) hn ⟨fun n' ys' s₀' s7 f hn' hs' => ?_, fun n' s₀' x s7 hx => ee n' s₀' x s7 hx⟩ ⟨acc, cc, r, I6⟩ q6
        cases f with
        | next =>
          obtain ⟨σ7, H7, z, n7⟩ := hs'
          obtain ⟨z1, z2, z3⟩ := after z
          obtain ⟨m', hm, w7⟩ := hN ys' σ7 H7 n7
          exact seg_again rfl (ih m' hm (i + 1) n' ys' s₀' s7 σ7 H7 hn' w7 z1 z2 z3)
        | cont =>
          obtain ⟨σ7, H7, z, n7⟩ := hs'
          obtain ⟨z1, z2, z3⟩ := after z
          obtain ⟨m', hm, w7⟩ := hN ys' σ7 H7 n7
          exact seg_again rfl (ih m' hm (i + 1) n' ys' s₀' s7 σ7 H7 hn' w7 z1 z2 z3)
        | brk =>
          obtain ⟨σ7, H7, z, n7⟩ := hs'
          exact seg_leaf (.ok .next) (k.ok n' ys' s₀' s7 .next hn' ⟨σ7, H7, (after z).1, n7⟩)
        | ret v =>
          obtain ⟨x7, σ7, H7, z, r7, q7⟩ := hs'
          exact seg_leaf (.ok (.ret v)) (k.ok n' ys' s₀' s7 (.ret v) hn' ⟨x7, σ7, H7, (after z).1, r7, q7⟩)
  exact loop m0 0 n ys s₀ s2 σ H2 hn w0 ⟨acc0, c0, r0, I2⟩ st2 fun b hb => (f2 b hb).1
end
end Gf
namespace Sc
open PySem L2
def RunsAt (C : Addr) (H : Hp) (as : List Addr) (rs : List (Int × Int)) : Prop := Paired (fun (a : Addr) (r : Int × Int) => RunAt C H a r.1 r.2) as rs
theorem RunAt.same {C p : Addr} {H H' : Hp} {f m : Int} (r : RunAt C H p f m) (s : Same H H') : RunAt C H' p f m := r.imp fun d e => s _ _ e
theorem RunsAt.same {C : Addr} {H H' : Hp} {as : List Addr} {rs : List (Int × Int)} (h : RunsAt C H as rs) (k : Same H H') : RunsAt C H' as rs := L2.Paired.mapP h fun a r z => RunAt.same z k
/-- but for l -/
def SameB (l : Addr) (H H' : Hp) : Prop := ∀ q o, q ≠ l → H q = some o → H' q = some o
theorem RunAt.ne {C p l : Addr} {H : Hp} {f m : Int} {o : HO} (r : RunAt C H p f m) (h : H l = some o) (ho : ∀ C dx fs, o ≠ .ins C dx fs) : p ≠ l := fun z => by
  obtain ⟨d, e⟩ := r
  rw [z, h] at e
  exact ho _ _ _ (Option.some.inj e)
theorem RunsAt.put {C l : Addr} {H : Hp} {as : List Addr} {rs : List (Int × Int)} {o o' : HO} (h : RunsAt C H as rs) (e : H l = some o) (ho : ∀ C dx fs, o ≠ .ins C dx fs) : RunsAt C (upd H l o') as rs := L2.Paired.mapP h fun a r z => by
  have ne := RunAt.ne z e ho
  obtain ⟨d, z⟩ := z
  exact ⟨d, by rw [upd_ne ne]; exact z⟩
theorem lst_ins {xs : List V} : ∀ C dx fs, HO.lst xs ≠ .ins C dx fs := fun C dx fs z => by cases z
theorem dk_ins {xs : List (Key × V)} : ∀ C dx fs, HO.dK xs ≠ .ins C dx fs := fun C dx fs z => by cases z
theorem paired_snoc {α β : Type} {F : α → β → Prop} {x : α} {y : β} (r : F x y) : ∀ {xs : List α} {ys : List β}, Paired F xs ys → Paired F (xs ++ [x]) (ys ++ [y])
  | _, _, .nil => .cons r .nil
  | _, _, .cons a t => .cons a (paired_snoc r t)
theorem RunsAt.snoc {C p : Addr} {H : Hp} {as : List Addr} {rs : List (Int × Int)} {f m : Int} (h : RunsAt C H as rs) (r : RunAt C H p f m) : RunsAt C H (as ++ [p]) (rs ++ [(f, m)]) := paired_snoc (F := fun (a : Addr) (r : Int × Int) => RunAt C H a r.1 r.2) r h
theorem paired_len {α β : Type} {F : α → β → Prop} : ∀ {xs : List α} {ys : List β}, Paired F xs ys → xs.length = ys.length
  | _, _, .nil => rfl
  | _, _, .cons _ t => by rw [List.length_cons, List.length_cons, paired_len t]
theorem paired_ith {α β : Type} {F : α → β → Prop} : ∀ {xs : List α} {ys : List β}, Paired F xs ys → ∀ {i : Nat} {x : α} {y : β}, xs[i]? = some x → ys[i]? = some y → F x y
  | _, _, .nil, i, x, y, h, _ => by simp at h
  | _, _, .cons r t, 0, x, y, h, k => by
    have e := Option.some.inj h
    have e2 := Option.some.inj k
    subst e; subst e2
    exact r
  | _, _, .cons r t, i + 1, x, y, h, k => paired_ith t (i := i) h k
theorem run_new {C p dx : Addr} {H : Hp} {f m : Int} (hp : H p = none) (hdx : H dx = none) (ne : dx ≠ p) : Same H (upd (upd H dx (.own p)) p (.ins C dx (rf f m))) ∧ RunAt C (upd (upd H dx (.own p)) p (.ins C dx (rf f m))) p f m := by
  refine ⟨fun c o e => ?_, dx, upd_same⟩
  rw [upd_ne (ne_of_none e hp), upd_ne (ne_of_none e hdx)]
  exact e
theorem put_same {H : Hp} {p : Addr} {o : HO} (h : H p = none) : Same H (upd H p o) := fun b u e => by rw [upd_ne (ne_of_none e h)]; exact e
def spIn (C : Addr) : Sp := fun vs H Q _ => ∃ (a : Addr) (f m v : Int), vs = [.ref a, .int v] ∧ RunAt C H a f m ∧ Q (.bl (decide (f ≤ v ∧ v ≤ f + m - 1))) H
section
variable {P : Program} {w : World} {K : PySem.W.Frag} {mg : Str → Option Value} {base : Heap} {C : Addr} {mc : Value} {tM : Tok}
theorem scContains : FnScope ["self", "x"] ["self", "x"] (defScope s_Run___contains__) := ⟨rfl, rfl, rfl, by decide +kernel, rfl, by decide +kernel, by decide +kernel⟩
theorem ok_in {f fW fE pp : Addr} {fd fdW fdE : FuncData} (F : Fun K "__contains__" "Run.__contains__" s_Run___contains__ f fd) (T : TR K mg C mc tM) (GW : FnOk P w K mg base CX0 2 fW fdW ["value", "least", "most"] (spWhole K)) (DW : Def K mg "whole" fW fdW ["value", "least", "most"])
    (GE : FnOk P w K mg base CX0 1 fE fdE ["self"] (spEnd C)) (bE : Binds K fdE ["self"] []) (pE : PropOf K C "end" pp fE) : FnOk P w K mg base CX0 3 f fd ["self", "x"] (spIn C) := by
  refine F.ok scContains (fun vs H Q E h => ?_) (fun cdv A outer s H vs Q E hr h => ?_)
  · obtain ⟨a, f, m, v, rfl, _⟩ := h
    rfl
  · obtain ⟨a, f, m, x, rfl, ⟨dx, ha⟩, k⟩ := h
    refine ⟨_, pss_one (ps_ret (pe_call GW hr (by rfl) DW.at_ DW.kp DW.bd .nil pass0 (pa_cons (pv 1) (pa_cons (pe_fld (pv 0) rfl) (pa_cons (pe_op op_sub (pe_prop (pv 0) T.cl pE GE (hr.mono (by decide)) bE .nil pass0 rfl) pe_int) pa_nil))))), ?_⟩
    refine ⟨_, rfl, _, rfl, a, C, dx, _, _, rfl, ha, T.cl, T.nF, rf_f _ _, _, rfl, a, dx, _, rfl, ha, a, f, m, rfl, ⟨dx, ha⟩, _, _, rfl, rfl, .int x, f, f + m - 1, rfl, ?_⟩
    exact .inl ⟨x, rfl, k⟩
end
/-! ### words() -/
theorem gfor_range {lo : Int} {n : Nat} {g : TG} {tb : TGn} {D : GEnds} {ys : List V} {σ : L2.St} {H : Hp} (Pv : Nat → List V → L2.St → Hp → Prop) (h0 : Pv 0 ys σ H)
    (hs : ∀ i ys σ H, i < n → Pv i ys σ H → g (.int (lo + i)) σ H fun σ2 H2 => tb { D with nx := Pv (i + 1), ct := Pv (i + 1), bk := D.nx } ys σ2 H2) (hd : ∀ ys σ H, Pv n ys σ H → D.nx ys σ H) :
    ∃ W : Nat → Nat → List V → L2.St → Hp → Prop, (∃ m, W 0 m ys σ H) ∧ ∀ i m ys σ H, W i m ys σ H →
      ((Itr lo n).stop i H ∧ D.nx ys σ H) ∨ ((Itr lo n).go i H ∧ ∃ N : List V → L2.St → Hp → Prop, (∀ ys' σ' H', N ys' σ' H' → ∃ m', m' < m ∧ W (i + 1) m' ys' σ' H') ∧ ∀ x H', (Itr lo n).yld i H x H' → g x σ H' fun σ2 H2 => tb { D with nx := N, ct := N, bk := D.nx } ys σ2 H2) := by
  refine ⟨fun i m ys σ H => m = n - i ∧ i ≤ n ∧ Pv i ys σ H, ⟨n, by simp, Nat.zero_le _, h0⟩, ?_⟩
  rintro i m ys σ H ⟨rfl, hi, p⟩
  by_cases hlt : i < n
  · refine .inr ⟨hlt, Pv (i + 1), fun ys' σ' H' p' => ⟨n - (i + 1), by omega, rfl, hlt, p'⟩, fun x H' y => ?_⟩
    obtain ⟨e, y⟩ := y
    subst e
    subst y
    exact hs i ys σ H' hlt p
  · have e : i = n := by omega
    subst e
    exact .inl ⟨Nat.le_refl _, hd ys σ H p⟩
def wordsI (f : Int) (n : Nat) : List Int := (List.range n).map fun (j : Nat) => f + (j : Int)
theorem wordsI_succ (f : Int) (n : Nat) : (wordsI f (n + 1)).map V.int = (wordsI f n).map V.int ++ [V.int (f + (n : Int))] := by
  unfold wordsI
  rw [List.range_succ, List.map_append, List.map_append]
  rfl
theorem wordsI_len (f : Int) (n : Nat) : (wordsI f n).length = n := by unfold wordsI; rw [List.length_map, List.length_range]
/-- words(): a generator; all that it hands out, if it is drained -/
def spWords (C : Addr) : SpG := fun vs H cont _ => ∃ (p : Addr) (f m : Int), vs = [.ref p] ∧ RunAt C H p f m ∧ 0 ≤ f ∧ f ≤ 2 ^ 60 ∧ 0 ≤ m ∧ m ≤ 100000 ∧ cont ((wordsI f m.toNat).map V.int) H
section
variable {P : Program} {w : World} {K : PySem.W.Frag} {mg : Str → Option Value} {base : Heap} {C : Addr} {mc : Value} {tM : Tok}
theorem scWords : GScope ["self", "word"] ["self"] (defScope s_Run_words) := ⟨rfl, rfl, rfl, by decide +kernel, rfl, by decide +kernel, by decide +kernel⟩
theorem ok_words {f fE pp : Addr} {fd fdE : FuncData} (F : Fun K "words" "Run.words" s_Run_words f fd) (T : TR K mg C mc tM) (GE : FnOk P w K mg base CX0 1 fE fdE ["self"] (spEnd C)) (bE : Binds K fdE ["self"] []) (pE : PropOf K C "end" pp fE) : GFn P w K mg base 3 f fd ["self"] (spWords C) := by
  obtain ⟨oc, od, kV, doc, pm, an, cdv, ct, osl, rfl, lk, hcd⟩ := F.ex
  refine gfn_of lk hcd scWords (fun vs H Q E h => ?_) (fun A outer s H vs Q E pn hr h => ?_)
  · obtain ⟨p, f, m, rfl, _⟩ := h
    rfl
  · obtain ⟨p, f, m, rfl, ⟨dx, hp⟩, f0, f1, m0, m1, k⟩ := h
    refine ⟨_, gss_cons (Gf.gs_for owns_gcx rfl (pi_range2 (by rfl) T.range (pa_cons (pe_fld (pv 0) rfl) (pa_cons (pe_prop (pv 0) T.cl pE GE hr bE .nil pass0 rfl) pa_nil))) (pg_name (i := 1) scWords.nd rfl (Or.inl rfl)) (gss_cons (gs_yield (pv 1)) gss_nil)) gss_nil, ?_⟩
    refine ⟨_, rfl, p, C, dx, _, _, rfl, hp, T.cl, T.nF, rf_f _ _, _, rfl, p, dx, _, rfl, hp, p, f, m, rfl, ⟨dx, hp⟩, ?_⟩
    refine ⟨f, f + m, rfl, ⟨by omega, by omega, by omega, by omega⟩, ?_⟩
    refine gfor_range (lo := f) (n := (f + m - f).toNat) (fun i ys σ H' => ∃ v1 : Option V, σ = [some (.ref p), v1] ∧ ys = (wordsI f i).map V.int ∧ H' = H) ⟨none, rfl, rfl, rfl⟩ ?_ ?_
    · rintro i ys σ H' hi ⟨v1, rfl, rfl, rfl⟩
      refine ⟨?_, _, rfl, _, rfl, (wordsI_succ f i).symm, rfl⟩
      rw [List.length_map, wordsI_len]
      exact Nat.lt_of_lt_of_le (show i < 100000 by omega) (by decide)
    · rintro ys σ H' ⟨v1, rfl, rfl, rfl⟩
      have e : (f + m - f).toNat = m.toNat := by omega
      rw [e]
      exact k
end
end Sc
/-! Pages that are taken, holes, windows: the mathematics of spaces. -/
namespace Sm
/-- the page is in the run (first, many) -/
def In (x : Int × Int) (p : Int) : Prop := x.1 ≤ p ∧ p < x.1 + x.2
instance (x : Int × Int) (p : Int) : Decidable (In x p) := by unfold In; exact inferInstance
def Fr (ts : List (Int × Int)) (p : Int) : Prop := ∀ x ∈ ts, ¬ In x p
instance (ts : List (Int × Int)) (p : Int) : Decidable (Fr ts p) := by unfold Fr; exact inferInstance
/-- what is taken of n pages: runs within, unlike pages -/
structure Tk (n : Int) (ts : List (Int × Int)) : Prop where
  ok : ∀ x ∈ ts, 0 ≤ x.1 ∧ 1 ≤ x.2 ∧ x.1 + x.2 ≤ n
  dj : ts.Pairwise fun x y => x.1 + x.2 ≤ y.1 ∨ y.1 + y.2 ≤ x.1
/-- the holes, ascending -/
structure HL (n : Int) (ts L : List (Int × Int)) : Prop where
  ok : ∀ x ∈ L, 0 ≤ x.1 ∧ 1 ≤ x.2 ∧ x.1 + x.2 ≤ n
  up : L.Pairwise fun x y => x.1 + x.2 < y.1
  iff : ∀ p, 0 ≤ p → p < n → (Fr ts p ↔ ∃ x ∈ L, In x p)
theorem Tk.nil {n : Int} : Tk n [] := ⟨fun x h => by simp at h, .nil⟩
theorem Tk.nd {n : Int} {ts : List (Int × Int)} (h : Tk n ts) : (ts.map (·.1)).Nodup := by
  refine List.pairwise_map.mpr (List.Pairwise.imp_of_mem (fun {a b} ha hb q z => ?_) h.dj)
  have h1 := h.ok a ha
  have h2 := h.ok b hb
  omega
theorem Tk.perm {n : Int} {ts us : List (Int × Int)} (h : Tk n ts) (p : us.Perm ts) : Tk n us :=
  ⟨fun x hx => h.ok x (p.mem_iff.mp hx), (p.pairwise_iff fun {x y} q => q.symm).mpr h.dj⟩
theorem fr_perm {ts us : List (Int × Int)} (p : us.Perm ts) (q : Int) : Fr us q ↔ Fr ts q := ⟨fun h x hx => h x (p.mem_iff.mpr hx), fun h x hx => h x (p.mem_iff.mp hx)⟩
/-- one more run, of free pages -/
theorem Tk.snoc {n : Int} {ts : List (Int × Int)} {x : Int × Int} (h : Tk n ts) (h0 : 0 ≤ x.1) (h1 : 1 ≤ x.2) (h2 : x.1 + x.2 ≤ n) (hf : ∀ p, In x p → Fr ts p) : Tk n (ts ++ [x]) := by
  refine ⟨fun y hy => ?_, List.pairwise_append.mpr ⟨h.dj, by simp, fun a ha b hb => ?_⟩⟩
  · rcases List.mem_append.mp hy with hy | hy
    · exact h.ok y hy
    · rw [List.mem_singleton.mp hy]
      exact ⟨h0, h1, h2⟩
  · rw [List.mem_singleton.mp hb]
    have ho := h.ok a ha
    by_cases q1 : a.1 + a.2 ≤ x.1
    · exact .inl q1
    by_cases q2 : x.1 + x.2 ≤ a.1
    · exact .inr q2
    exfalso
    by_cases q3 : x.1 ≤ a.1
    · exact hf a.1 ⟨q3, by omega⟩ a ha ⟨by omega, by omega⟩
    · exact hf x.1 ⟨by omega, by omega⟩ a ha ⟨by omega, by omega⟩
theorem fr_snoc {ts : List (Int × Int)} {x : Int × Int} {p : Int} : Fr (ts ++ [x]) p ↔ Fr ts p ∧ ¬ In x p := by
  constructor
  · intro h
    exact ⟨fun y hy => h y (List.mem_append_left _ hy), h x (by simp)⟩
  · intro ⟨h1, h2⟩ y hy
    rcases List.mem_append.mp hy with hy | hy
    · exact h1 y hy
    · rw [List.mem_singleton.mp hy]
      exact h2
def del (ts : List (Int × Int)) (f : Int) : List (Int × Int) := ts.filter fun x => decide (x.1 ≠ f)
theorem Tk.del {n : Int} {ts : List (Int × Int)} (h : Tk n ts) (f : Int) : Tk n (del ts f) := ⟨fun x hx => h.ok x (List.mem_filter.mp hx).1, h.dj.sublist List.filter_sublist⟩
theorem Tk.one {n : Int} {ts : List (Int × Int)} (h : Tk n ts) {x y : Int × Int} (hx : x ∈ ts) (hy : y ∈ ts) (e : x.1 = y.1) : x = y := by
  obtain ⟨i, hi, rfl⟩ := List.getElem_of_mem hx
  obtain ⟨j, hj, rfl⟩ := List.getElem_of_mem hy
  have nd := h.nd
  have : i = j := by
    have h1 : (ts.map (·.1))[i]'(by simpa using hi) = (ts.map (·.1))[j]'(by simpa using hj) := by simpa using e
    exact (List.getElem_inj nd).mp h1
  subst this
  rfl
theorem fr_del {n : Int} {ts : List (Int × Int)} (h : Tk n ts) {x : Int × Int} (hx : x ∈ ts) {p : Int} : Fr (del ts x.1) p ↔ Fr ts p ∨ In x p := by
  constructor
  · intro q
    by_cases hp : In x p
    · exact .inr hp
    · refine .inl fun y hy z => ?_
      by_cases e : y.1 = x.1
      · exact hp (h.one hy hx e ▸ z)
      · exact q y (List.mem_filter.mpr ⟨hy, by simpa using e⟩) z
  · rintro (q | q) y hy z
    · exact q y (List.mem_filter.mp hy).1 z
    · have hy1 := (List.mem_filter.mp hy).1
      have hy2 : y.1 ≠ x.1 := by simpa using (List.mem_filter.mp hy).2
      obtain ⟨i, hi, e1⟩ := List.getElem_of_mem hx
      obtain ⟨j, hj, e2⟩ := List.getElem_of_mem hy1
      have hd := List.pairwise_iff_getElem.mp h.dj
      have ne : i ≠ j := fun e => by subst e; rw [e1] at e2; exact hy2 (by rw [e2])
      obtain ⟨q1, q2⟩ := q
      obtain ⟨z1, z2⟩ := z
      rcases Nat.lt_or_gt_of_ne ne with l | l
      · have := hd i j hi hj l
        rw [e1, e2] at this
        omega
      · have := hd j i hj hi l
        rw [e1, e2] at this
        omega
theorem perm_cons_del {n : Int} {ts : List (Int × Int)} (h : Tk n ts) {x : Int × Int} (hx : x ∈ ts) : (x :: del ts x.1).Perm ts := by
  induction ts with
  | nil => simp at hx
  | cons y r ih =>
    have hr : Tk n r := ⟨fun z hz => h.ok z (List.mem_cons_of_mem _ hz), (List.pairwise_cons.mp h.dj).2⟩
    by_cases e : y.1 = x.1
    · have : y = x := h.one (List.mem_cons_self ..) hx e
      subst this
      have nd := h.nd
      have : del (y :: r) y.1 = r := by
        unfold del
        rw [List.filter_cons_of_neg (by simp)]
        refine List.filter_eq_self.mpr fun z hz => ?_
        have := (List.nodup_cons.mp nd).1
        have : z.1 ≠ y.1 := fun q => this (List.mem_map.mpr ⟨z, hz, q⟩)
        simpa using this
      rw [this]
    · have hx' : x ∈ r := (List.mem_cons.mp hx).resolve_left fun q => e (by rw [q])
      have : del (y :: r) x.1 = y :: del r x.1 := by
        unfold del
        rw [List.filter_cons_of_pos (by simpa using e)]
      rw [this]
      exact (List.Perm.swap y x _).trans ((ih hr hx').cons y)
/-! ### the walk over the sorted first pages -/
def stp (lk : Int → Int) (z : List (Int × Int) × Int) (f : Int) : List (Int × Int) × Int := (if z.2 < f then z.1 ++ [(z.2, f - z.2)] else z.1, f + lk f)
def wk (lk : Int → Int) (ys : List Int) : List (Int × Int) × Int := ys.foldl (stp lk) ([], 0)
def fin (n : Int) (z : List (Int × Int) × Int) : List (Int × Int) := if z.2 < n then z.1 ++ [(z.2, n - z.2)] else z.1
theorem wk_snoc (lk : Int → Int) (ys : List Int) (f : Int) : wk lk (ys ++ [f]) = stp lk (wk lk ys) f := by unfold wk; rw [List.foldl_append]; rfl
/-- what is known behind some of the first pages -/
structure Wk (lk : Int → Int) (ys : List Int) (z : List (Int × Int) × Int) : Prop where
  e0 : 0 ≤ z.2
  ge : ∀ f ∈ ys, f + lk f ≤ z.2
  ok : ∀ x ∈ z.1, 0 ≤ x.1 ∧ 1 ≤ x.2 ∧ x.1 + x.2 ≤ z.2
  lt : ∀ x ∈ z.1, x.1 + x.2 < z.2
  up : z.1.Pairwise fun x y => x.1 + x.2 < y.1
  iff : ∀ p, 0 ≤ p → p < z.2 → ((∀ f ∈ ys, ¬ (f ≤ p ∧ p < f + lk f)) ↔ ∃ x ∈ z.1, In x p)
theorem wk_ok (lk : Int → Int) : ∀ ys : List Int, (∀ f ∈ ys, 0 ≤ f ∧ 1 ≤ lk f) → ys.Pairwise (fun f g => f + lk f ≤ g) → Wk lk ys (wk lk ys) := by
  intro ys
  generalize hl : ys.length = m
  induction m generalizing ys with
  | zero =>
    intro _ _
    have : ys = [] := List.length_eq_zero_iff.mp hl
    subst this
    exact ⟨Int.le_refl _, fun f h => by simp at h, fun x h => by simp [wk] at h, fun x h => by simp [wk] at h, .nil, fun p h1 h2 => by simp [wk] at h2; omega⟩
  | succ m ih =>
    intro h0 hp
    obtain ⟨zs, f, rfl⟩ : ∃ zs f, ys = zs ++ [f] := by
      cases hys : ys.reverse with
      | nil => rw [List.reverse_eq_nil_iff] at hys; subst hys; simp at hl
      | cons f r => exact ⟨r.reverse, f, by rw [← List.reverse_cons, ← hys, List.reverse_reverse]⟩
    have hp' := List.pairwise_append.mp hp
    have W := ih zs (by simpa using hl) (fun g hg => h0 g (by simp [hg])) hp'.1
    have hf := h0 f (by simp)
    have hgf : ∀ g ∈ zs, g + lk g ≤ f := fun g hg => hp'.2.2 g hg f (by simp)
    have ef : (wk lk zs).2 ≤ f := by
      cases hz : zs.reverse with
      | nil => rw [List.reverse_eq_nil_iff] at hz; subst hz; exact hf.1
      | cons g r =>
        have : zs = r.reverse ++ [g] := by rw [← List.reverse_cons, ← hz, List.reverse_reverse]
        subst this
        rw [wk_snoc]
        exact hgf g (by simp)
    rw [wk_snoc]
    generalize wk lk zs = z at W ef
    by_cases q : z.2 < f
    · have es : stp lk z f = (z.1 ++ [(z.2, f - z.2)], f + lk f) := by unfold stp; rw [if_pos q]
      rw [es]
      refine ⟨by show 0 ≤ f + lk f; omega, fun g hg => ?_, fun x hx => ?_, fun x hx => ?_, List.pairwise_append.mpr ⟨W.up, by simp, fun a ha b hb => ?_⟩, fun p p0 p1 => ?_⟩
      · rcases List.mem_append.mp hg with hg | hg
        · have := W.ge g hg; show _ ≤ f + lk f; omega
        · rw [List.mem_singleton.mp hg]; exact Int.le_refl _
      · rcases List.mem_append.mp hx with hx | hx
        · have := W.ok x hx; exact ⟨this.1, this.2.1, by show _ ≤ f + lk f; omega⟩
        · rw [List.mem_singleton.mp hx]; exact ⟨W.e0, by show 1 ≤ f - z.2; omega, by show z.2 + (f - z.2) ≤ f + lk f; omega⟩
      · rcases List.mem_append.mp hx with hx | hx
        · have := W.lt x hx; show _ < f + lk f; omega
        · rw [List.mem_singleton.mp hx]; show z.2 + (f - z.2) < f + lk f; omega
      · rw [List.mem_singleton.mp hb]; exact W.lt a ha
      · have p1 : p < f + lk f := p1
        by_cases q1 : p < z.2
        · have := W.iff p p0 q1
          constructor
          · intro h
            obtain ⟨x, hx, hi⟩ := this.mp fun g hg => h g (List.mem_append_left _ hg)
            exact ⟨x, List.mem_append_left _ hx, hi⟩
          · rintro ⟨x, hx, hi⟩ g hg
            rcases List.mem_append.mp hx with hx | hx
            · rcases List.mem_append.mp hg with hg | hg
              · exact this.mpr ⟨x, hx, hi⟩ g hg
              · rw [List.mem_singleton.mp hg]; omega
            · rw [List.mem_singleton.mp hx] at hi; have := hi.1; exfalso; dsimp at this; omega
        · by_cases q2 : p < f
          · constructor
            · intro _; exact ⟨(z.2, f - z.2), by simp, by show z.2 ≤ p; omega, by show p < z.2 + (f - z.2); omega⟩
            · intro _ g hg
              rcases List.mem_append.mp hg with hg | hg
              · have := W.ge g hg; omega
              · rw [List.mem_singleton.mp hg]; omega
          · constructor
            · intro h; exact absurd (And.intro (by omega) p1) (h f (by simp))
            · rintro ⟨x, hx, hi⟩
              rcases List.mem_append.mp hx with hx | hx
              · have := W.ok x hx; have := hi.2; exfalso; omega
              · rw [List.mem_singleton.mp hx] at hi; have := hi.2; exfalso; dsimp at this; omega
    · have ezf : z.2 = f := by omega
      have es : stp lk z f = (z.1, f + lk f) := by unfold stp; rw [if_neg q]
      rw [es]
      refine ⟨by show 0 ≤ f + lk f; omega, fun g hg => ?_, fun x hx => ?_, fun x hx => ?_, W.up, fun p p0 p1 => ?_⟩
      · rcases List.mem_append.mp hg with hg | hg
        · have := W.ge g hg; show _ ≤ f + lk f; omega
        · rw [List.mem_singleton.mp hg]; exact Int.le_refl _
      · have := W.ok x hx; exact ⟨this.1, this.2.1, by show _ ≤ f + lk f; omega⟩
      · have := W.lt x hx; show _ < f + lk f; omega
      · have p1 : p < f + lk f := p1
        by_cases q1 : p < z.2
        · have := W.iff p p0 q1
          constructor
          · intro h; exact this.mp fun g hg => h g (List.mem_append_left _ hg)
          · intro hx g hg
            rcases List.mem_append.mp hg with hg | hg
            · exact this.mpr hx g hg
            · rw [List.mem_singleton.mp hg]; omega
        · constructor
          · intro h; exact absurd (And.intro (by omega) p1) (h f (by simp))
          · rintro ⟨x, hx, hi⟩; have := W.ok x hx; have := hi.2; exfalso; omega
theorem back_of {n : Int} {ts : List (Int × Int)} {ys : List Int} {lk : Int → Int} (hy : ys.Perm (ts.map (·.1))) (hlk : ∀ x ∈ ts, lk x.1 = x.2) : ∀ f ∈ ys, (f, lk f) ∈ ts := fun f hf => by
  obtain ⟨x, hx, e⟩ := List.mem_map.mp (hy.mem_iff.mp hf)
  have := hlk x hx
  rw [← e, this]
  exact hx
theorem chain_of {n : Int} {ts : List (Int × Int)} {ys : List Int} {lk : Int → Int} (T : Tk n ts) (hy : ys.Perm (ts.map (·.1))) (hs : ys.Pairwise (· ≤ ·)) (hlk : ∀ x ∈ ts, lk x.1 = x.2) : ys.Pairwise fun f g => f + lk f ≤ g := by
  have nd : ys.Nodup := hy.nodup_iff.mpr T.nd
  have hb : ys.Pairwise fun f g => f ≤ g ∧ f ≠ g := List.pairwise_and_iff.mpr ⟨hs, nd⟩
  refine List.Pairwise.imp_of_mem (fun {f g} hf hg q => ?_) hb
  have h1 := back_of (n := n) hy hlk f hf
  have h2 := back_of (n := n) hy hlk g hg
  have o1 := T.ok _ h1
  have o2 := T.ok _ h2
  obtain ⟨i, hi, e1⟩ := List.getElem_of_mem h1
  obtain ⟨j, hj, e2⟩ := List.getElem_of_mem h2
  have hd := List.pairwise_iff_getElem.mp T.dj
  have ne : i ≠ j := fun e => by subst e; rw [e1] at e2; exact q.2 (Prod.mk.inj e2).1
  dsimp at o1 o2
  rcases Nat.lt_or_gt_of_ne ne with l | l
  · have := hd i j hi hj l
    rw [e1, e2] at this
    dsimp at this
    omega
  · have := hd j i hj hi l
    rw [e1, e2] at this
    dsimp at this
    omega
theorem wk_end {lk : Int → Int} {ys : List Int} {b : Int} (b0 : 0 ≤ b) (h : ∀ f ∈ ys, f + lk f ≤ b) : (wk lk ys).2 ≤ b := by
  cases hz : ys.reverse with
  | nil => rw [List.reverse_eq_nil_iff] at hz; subst hz; exact b0
  | cons g r =>
    have e : ys = r.reverse ++ [g] := by rw [← List.reverse_cons, ← hz, List.reverse_reverse]
    have hg : g ∈ ys := by rw [e]; simp
    rw [e, wk_snoc]
    exact h g hg
theorem wk_len (lk : Int → Int) : ∀ ys : List Int, (wk lk ys).1.length ≤ ys.length := by
  intro ys
  generalize hl : ys.length = m
  induction m generalizing ys with
  | zero =>
    have : ys = [] := List.length_eq_zero_iff.mp hl
    subst this
    exact Nat.le_refl _
  | succ m ih =>
    obtain ⟨zs, f, rfl⟩ : ∃ zs f, ys = zs ++ [f] := by
      cases hys : ys.reverse with
      | nil => rw [List.reverse_eq_nil_iff] at hys; subst hys; simp at hl
      | cons f r => exact ⟨r.reverse, f, by rw [← List.reverse_cons, ← hys, List.reverse_reverse]⟩
    have := ih zs (by simpa using hl)
    rw [wk_snoc]
    unfold stp
    split
    · rw [List.length_append]; simpa using this
    · exact Nat.le_succ_of_le this
theorem walk_at {n : Int} {ts : List (Int × Int)} {ys : List Int} {lk : Int → Int} (T : Tk n ts) (n0 : 0 ≤ n) (hy : ys.Perm (ts.map (·.1))) (hs : ys.Pairwise (· ≤ ·)) (hlk : ∀ x ∈ ts, lk x.1 = x.2) (i : Nat) (hi : i ≤ ys.length) :
    Wk lk (ys.take i) (wk lk (ys.take i)) ∧ (wk lk (ys.take i)).2 ≤ n ∧ (wk lk (ys.take i)).1.length ≤ i ∧ ∀ g, ys[i]? = some g → (wk lk (ys.take i)).2 ≤ g := by
  have hb := back_of (n := n) hy hlk
  have hc := chain_of T hy hs hlk
  have sub : ∀ f ∈ ys.take i, f ∈ ys := fun f hf => List.mem_of_mem_take hf
  refine ⟨wk_ok lk _ (fun f hf => by have := T.ok _ (hb f (sub f hf)); exact ⟨this.1, this.2.1⟩) (hc.sublist (List.take_sublist _ _)), wk_end n0 fun f hf => (T.ok _ (hb f (sub f hf))).2.2, ?_, fun g hg => ?_⟩
  · have := wk_len lk (ys.take i)
    rw [List.length_take] at this
    omega
  · have hil : i < ys.length := (List.getElem?_eq_some_iff.mp hg).1
    have ge : ys[i] = g := (List.getElem?_eq_some_iff.mp hg).2
    refine wk_end (T.ok _ (hb g (List.mem_of_getElem? hg))).1 fun f hf => ?_
    obtain ⟨j, hj, e⟩ := List.getElem_of_mem hf
    rw [List.length_take] at hj
    rw [List.getElem_take] at e
    have := List.pairwise_iff_getElem.mp hc j i (by omega) hil (by omega)
    rw [e, ge] at this
    exact this
/-- the walk's end gives the holes -/
theorem hl_of {n : Int} {ts : List (Int × Int)} {ys : List Int} {lk : Int → Int} (T : Tk n ts) (n0 : 0 ≤ n) (hy : ys.Perm (ts.map (·.1))) (hs : ys.Pairwise (· ≤ ·)) (hlk : ∀ x ∈ ts, lk x.1 = x.2) : HL n ts (fin n (wk lk ys)) := by
  have back : ∀ f ∈ ys, (f, lk f) ∈ ts := fun f hf => by
    obtain ⟨x, hx, e⟩ := List.mem_map.mp (hy.mem_iff.mp hf)
    have := hlk x hx
    rw [← e, this]
    exact hx
  have nd : ys.Nodup := hy.nodup_iff.mpr T.nd
  have hch : ys.Pairwise fun f g => f + lk f ≤ g := by
    have hb : ys.Pairwise fun f g => f ≤ g ∧ f ≠ g := List.pairwise_and_iff.mpr ⟨hs, nd⟩
    refine List.Pairwise.imp_of_mem (fun {f g} hf hg q => ?_) hb
    have h1 := back f hf
    have h2 := back g hg
    have o1 := T.ok _ h1
    have o2 := T.ok _ h2
    obtain ⟨i, hi, e1⟩ := List.getElem_of_mem h1
    obtain ⟨j, hj, e2⟩ := List.getElem_of_mem h2
    have hd := List.pairwise_iff_getElem.mp T.dj
    have ne : i ≠ j := fun e => by subst e; rw [e1] at e2; exact q.2 (Prod.mk.inj e2).1
    dsimp at o1 o2
    rcases Nat.lt_or_gt_of_ne ne with l | l
    · have := hd i j hi hj l
      rw [e1, e2] at this
      dsimp at this
      omega
    · have := hd j i hj hi l
      rw [e1, e2] at this
      dsimp at this
      omega
  have W := wk_ok lk ys (fun f hf => by have := T.ok _ (back f hf); exact ⟨this.1, this.2.1⟩) hch
  have le : (wk lk ys).2 ≤ n := by
    cases hz : ys.reverse with
    | nil => rw [List.reverse_eq_nil_iff] at hz; subst hz; exact n0
    | cons g r =>
      have e : ys = r.reverse ++ [g] := by rw [← List.reverse_cons, ← hz, List.reverse_reverse]
      have hg : g ∈ ys := by rw [e]; simp
      rw [e, wk_snoc]
      exact (T.ok _ (back g hg)).2.2
  have frq : ∀ p, Fr ts p ↔ ∀ f ∈ ys, ¬ (f ≤ p ∧ p < f + lk f) := fun p => by
    constructor
    · intro h f hf; exact h _ (back f hf)
    · intro h x hx
      have := h x.1 (hy.mem_iff.mpr (List.mem_map_of_mem hx))
      rw [hlk x hx] at this
      exact this
  generalize wk lk ys = z at W le
  unfold fin
  by_cases q : z.2 < n
  · rw [if_pos q]
    refine ⟨fun x hx => ?_, List.pairwise_append.mpr ⟨W.up, by simp, fun a ha b hb => ?_⟩, fun p p0 p1 => ?_⟩
    · rcases List.mem_append.mp hx with hx | hx
      · have := W.ok x hx; exact ⟨this.1, this.2.1, by omega⟩
      · rw [List.mem_singleton.mp hx]; exact ⟨W.e0, by show 1 ≤ n - z.2; omega, by show z.2 + (n - z.2) ≤ n; omega⟩
    · rw [List.mem_singleton.mp hb]; exact W.lt a ha
    · rw [frq]
      by_cases q1 : p < z.2
      · rw [W.iff p p0 q1]
        constructor
        · rintro ⟨x, hx, hi⟩; exact ⟨x, List.mem_append_left _ hx, hi⟩
        · rintro ⟨x, hx, hi⟩
          rcases List.mem_append.mp hx with hx | hx
          · exact ⟨x, hx, hi⟩
          · rw [List.mem_singleton.mp hx] at hi; have := hi.1; exfalso; dsimp at this; omega
      · constructor
        · intro _; exact ⟨(z.2, n - z.2), by simp, by show z.2 ≤ p; omega, by show p < z.2 + (n - z.2); omega⟩
        · intro _ f hf; have := W.ge f hf; omega
  · rw [if_neg q]
    refine ⟨fun x hx => ?_, W.up, fun p p0 p1 => ?_⟩
    · have := W.ok x hx; exact ⟨this.1, this.2.1, by omega⟩
    · rw [frq]; exact W.iff p p0 (by omega)
/-- a window of free pages lies in one hole -/
theorem HL.win {n : Int} {ts L : List (Int × Int)} (h : HL n ts L) {p s : Int} (p0 : 0 ≤ p) (s1 : 1 ≤ s) (hn : p + s ≤ n) : (∀ q, p ≤ q → q < p + s → Fr ts q) ↔ ∃ x ∈ L, x.1 ≤ p ∧ p + s ≤ x.1 + x.2 := by
  constructor
  · intro hq
    obtain ⟨x, hx, i1, i2⟩ := (h.iff p p0 (by omega)).mp (hq p (Int.le_refl _) (by omega))
    refine ⟨x, hx, i1, ?_⟩
    by_cases q : p + s ≤ x.1 + x.2
    · exact q
    exfalso
    obtain ⟨y, hy, j1, j2⟩ := (h.iff (x.1 + x.2) (by omega) (by omega)).mp (hq _ (by omega) (by omega))
    obtain ⟨i, hi, e1⟩ := List.getElem_of_mem hx
    obtain ⟨j, hj, e2⟩ := List.getElem_of_mem hy
    have hd := List.pairwise_iff_getElem.mp h.up
    have ne : i ≠ j := fun e => by subst e; rw [e1] at e2; subst e2; omega
    rcases Nat.lt_or_gt_of_ne ne with l | l
    · have := hd i j hi hj l
      rw [e1, e2] at this
      omega
    · have := hd j i hj hi l
      rw [e1, e2] at this
      omega
  · rintro ⟨x, hx, i1, i2⟩ q q0 q1
    have := h.ok x hx
    exact (h.iff q (by omega) (by omega)).mpr ⟨x, hx, by omega, by omega⟩
end Sm
namespace Sc
open PySem L2
abbrev Pr := Int × Int
def kvI (ts : List Pr) : List (Key × V) := ts.map fun x => ((Sum.inl x.1 : Key), V.int x.2)
def lkI (ts : List Pr) (f : Int) : Int := ((ts.find? fun x => decide (x.1 = f)).map (·.2)).getD 0
theorem val_kv (n : Int) : ∀ ts : List Pr, valV (kvI ts) (Sum.inl n) = (ts.find? fun x => decide (x.1 = n)).map fun x => V.int x.2
  | [] => rfl
  | e :: es => by
    have ih := val_kv n es
    show valV (((Sum.inl e.1 : Key), V.int e.2) :: kvI es) (Sum.inl n) = _
    by_cases h : e.1 = n
    · rw [valV_pos (by rw [h]), List.find?_cons_of_pos (by simp [h])]
      rfl
    · rw [valV_neg (fun z => h (Sum.inl.inj z)), ih, List.find?_cons_of_neg (by simp [h])]
theorem find_of {n : Int} {ts : List Pr} (T : Sm.Tk n ts) {x : Pr} (hx : x ∈ ts) : (ts.find? fun y => decide (y.1 = x.1)) = some x := by
  cases e : ts.find? fun y => decide (y.1 = x.1) with
  | none => exact absurd (List.find?_eq_none.mp e x hx) (by simp)
  | some y =>
    have h1 := List.mem_of_find?_eq_some e
    have h2 : y.1 = x.1 := by simpa using List.find?_some e
    rw [T.one h1 hx h2]
theorem val_of {n : Int} {ts : List Pr} (T : Sm.Tk n ts) {x : Pr} (hx : x ∈ ts) : valV (kvI ts) (Sum.inl x.1) = some (.int x.2) := by rw [val_kv, find_of T hx]; rfl
theorem lk_of {n : Int} {ts : List Pr} (T : Sm.Tk n ts) {x : Pr} (hx : x ∈ ts) : lkI ts x.1 = x.2 := by unfold lkI; rw [find_of T hx]; rfl
theorem val_no {f : Int} {ts : List Pr} (h : ∀ x ∈ ts, x.1 ≠ f) : valV (kvI ts) (Sum.inl f) = none := by
  rw [val_kv, List.find?_eq_none.mpr (fun x hx => by simpa using h x hx)]
  rfl
theorem put_kv {f m : Int} {ts : List Pr} (h : ∀ x ∈ ts, x.1 ≠ f) : putK (kvI ts) (Sum.inl f) (V.int m) = kvI (ts ++ [(f, m)]) := by
  rw [putK_new _ (val_no h)]
  unfold kvI
  rw [List.map_append]
  rfl
theorem drop_kv (f : Int) : ∀ ts : List Pr, dropK (kvI ts) (Sum.inl f) = kvI (Sm.del ts f)
  | [] => rfl
  | e :: es => by
    have ih := drop_kv f es
    show dropK (((Sum.inl e.1 : Key), V.int e.2) :: kvI es) (Sum.inl f) = _
    unfold Sm.del at ih ⊢
    by_cases h : e.1 = f
    · rw [dropK_pos (by rw [h]), List.filter_cons_of_neg (by simp [h]), ih]
    · rw [dropK_neg (fun z => h (Sum.inl.inj z)), List.filter_cons_of_pos (by simp [h]), ih]
      rfl
theorem kv_len (ts : List Pr) : (kvI ts).length = ts.length := List.length_map ..
theorem kv_fst (ts : List Pr) : (kvI ts).map (·.1) = (ts.map (·.1)).map Sum.inl := by
  unfold kvI
  rw [List.map_map, List.map_map]
  rfl
theorem kv_snd (ts : List Pr) : (kvI ts).map (·.2) = (ts.map (·.2)).map V.int := by
  unfold kvI
  rw [List.map_map, List.map_map]
  rfl
/-- a space of n pages: its policy, its mark, the dict of what is taken -/
def SpAt (S : Addr) (H : Hp) (a : Addr) (n : Int) (pol : V) (mk : Int) (d : Addr) : Prop := ∃ dx fs, H a = some (.ins S dx fs) ∧ fs.lookup ("_pages" : Str) = some (.int n) ∧ fs.lookup ("_policy" : Str) = some pol ∧ fs.lookup ("_mark" : Str) = some (.int mk) ∧
  fs.lookup ("_taken" : Str) = some (.ref d) ∧ fs.length < 900 ∧ ∀ x : Str, x ≠ "_pages" → x ≠ "_policy" → x ≠ "_mark" → x ≠ "_taken" → fs.lookup x = none
theorem SpAt.same {S a d : Addr} {H H' : Hp} {n mk : Int} {pol : V} (h : SpAt S H a n pol mk d) (k : Same H H') : SpAt S H' a n pol mk d := by
  obtain ⟨dx, fs, e, r⟩ := h
  exact ⟨dx, fs, k _ _ e, r⟩
theorem SpAt.put {S a d l : Addr} {H : Hp} {n mk : Int} {pol : V} {o o' : HO} (h : SpAt S H a n pol mk d) (e : H l = some o) (ho : ∀ C dx fs, o ≠ .ins C dx fs) : SpAt S (upd H l o') a n pol mk d := by
  obtain ⟨dx, fs, z, r⟩ := h
  refine ⟨dx, fs, ?_, r⟩
  rw [upd_ne (fun q => by rw [q, e] at z; exact ho _ _ _ (Option.some.inj z))]
  exact z
/-- what the walk asks of the class Space -/
structure TS (K : PySem.W.Frag) (mg : Str → Option Value) (S : Addr) : Prop where
  cl : Cls K S
  nP : NoAttr K S "_pages"
  nQ : NoAttr K S "_policy"
  nM : NoAttr K S "_mark"
  nT : NoAttr K S "_taken"
  mgS : mg "Space" = some (.ref S)
  sorted : mg "sorted" = none
  sum : mg "sum" = none
  str : mg "str" = none
  list : mg "list" = none
  tuple : mg "tuple" = none
  max : mg "max" = none
structure Mt (P : Program) (w : World) (K : PySem.W.Frag) (mg : Str → Option Value) (base : Heap) (CX : CXT) (C : Addr) (k : Nat) (x : Str) (ps : List Str) (sp : Sp) (f : Addr) (fd : FuncData) : Prop where
  ok : FnOk P w K mg base CX k f fd ps sp
  mt : Meth K C x f
  bd : Binds K fd ps []
def spFree (S : Addr) : Sp := fun vs H Q _ => ∃ (a d : Addr) (n mk : Int) (pol : V) (ts : List Pr), vs = [.ref a] ∧ SpAt S H a n pol mk d ∧ H d = some (.dK (kvI ts)) ∧ Q (.int (n - (ts.map (·.2)).sum)) H
def spMark (S : Addr) : Sp := fun vs H Q _ => ∃ (a d : Addr) (n mk : Int) (pol : V), vs = [.ref a] ∧ SpAt S H a n pol mk d ∧ Q (.int mk) H
/-- holes_of: a new list of new runs -/
def spHolesOf (C : Addr) : Sp := fun vs H Q _ => ∃ (d : Addr) (n : Int) (ts : List Pr), vs = [.ref d, .int n] ∧ H d = some (.dK (kvI ts)) ∧ Sm.Tk n ts ∧ ts.length < 64 ∧ 1 ≤ n ∧ n ≤ 1000 ∧
  ∀ (H' : Hp) (l : Addr) (as : List Addr) (L : List Pr), Same H H' → H l = none → H' l = some (.lst (as.map V.ref)) → RunsAt C H' as L → Sm.HL n ts L → L.length ≤ 64 → Q (.ref l) H'
/-- holes(): a new list of new runs -/
def spHoles (C S : Addr) : Sp := fun vs H Q _ => ∃ (a d : Addr) (n mk : Int) (pol : V) (ts : List Pr), vs = [.ref a] ∧ SpAt S H a n pol mk d ∧ H d = some (.dK (kvI ts)) ∧ Sm.Tk n ts ∧ ts.length < 64 ∧ 1 ≤ n ∧ n ≤ 1000 ∧
  ∀ (H' : Hp) (l : Addr) (as : List Addr) (L : List Pr), Same H H' → H l = none → H' l = some (.lst (as.map V.ref)) → RunsAt C H' as L → Sm.HL n ts L → L.length ≤ 64 → Q (.ref l) H'
section
variable {P : Program} {w : World} {K : PySem.W.Frag} {mg : Str → Option Value} {base : Heap} {C S : Addr} {mc : Value} {tM : Tok}
theorem scFree : FnScope ["self"] ["self"] (defScope s_Space_free) := ⟨rfl, rfl, rfl, by decide +kernel, rfl, by decide +kernel, by decide +kernel⟩
theorem ok_free {f : Addr} {fd : FuncData} (F : Fun K "free" "Space.free" s_Space_free f fd) (U : TS K mg S) : FnOk P w K mg base CX0 1 f fd ["self"] (spFree S) := by
  refine F.ok scFree (fun vs H Q E h => ?_) (fun cdv A outer s H vs Q E hr h => ?_)
  · obtain ⟨a, d, n, mk, pol, ts, rfl, _⟩ := h
    rfl
  · obtain ⟨a, d, n, mk, pol, ts, rfl, ⟨dx, fs, ha, p1, p2, p3, p4, _⟩, hd, k⟩ := h
    refine ⟨_, pss_one (ps_ret (pe_op op_sub (pe_fld (pv 0) rfl) (Sv.pe_sumVals rfl (by rfl) U.sum (pe_fld (pv 0) rfl)))), ?_⟩
    exact ⟨_, rfl, a, S, dx, _, _, rfl, ha, U.cl, U.nP, p1, _, rfl, a, S, dx, _, _, rfl, ha, U.cl, U.nT, p4, d, _, _, rfl, hd, kv_snd ts, _, _, rfl, rfl, k⟩
theorem scMark : FnScope ["self"] ["self"] (defScope s_Space_mark) := ⟨rfl, rfl, rfl, by decide +kernel, rfl, by decide +kernel, by decide +kernel⟩
theorem ok_mark {f : Addr} {fd : FuncData} (F : Fun K "mark" "Space.mark" s_Space_mark f fd) (U : TS K mg S) : FnOk P w K mg base CX0 1 f fd ["self"] (spMark S) := by
  refine F.ok scMark (fun vs H Q E h => ?_) (fun cdv A outer s H vs Q E hr h => ?_)
  · obtain ⟨a, d, n, mk, pol, rfl, _⟩ := h
    rfl
  · obtain ⟨a, d, n, mk, pol, rfl, ⟨dx, fs, ha, p1, p2, p3, p4, _⟩, k⟩ := h
    exact ⟨_, pss_one (ps_ret (pe_fld (pv 0) rfl)), _, rfl, a, S, dx, _, _, rfl, ha, U.cl, U.nM, p3, k⟩
theorem scHolesOf : FnScope ["taken", "pages", "found", "end", "first"] ["taken", "pages"] (defScope s_holes_of) := ⟨rfl, rfl, rfl, by decide +kernel, rfl, by decide +kernel, by decide +kernel⟩
theorem ok_holesOf {f fB ppB : Addr} {fd fdB : FuncData} (F : Fun K "holes_of" "holes_of" s_holes_of f fd) (T : TR K mg C mc tM) (U : TS K mg S) (GB : FnR P w K mg base CX0 5 fB (spBetween C)) (cB : ClX.CMet K C mc "between" ppB fB) : FnOk P w K mg base CX0 6 f fd ["taken", "pages"] (spHolesOf C) := by
  refine F.ok scHolesOf (fun vs H Q E h => ?_) (fun cdv A outer s H vs Q E hr h => ?_)
  · obtain ⟨d, n, ts, rfl, _⟩ := h
    rfl
  · obtain ⟨d, n, ts, rfl, hd, tk, hl, n1, n2, k⟩ := h
    have hu := hu_of hr
    refine ⟨_, pss_cons (ps_set (i := 2) scHolesOf.nd rfl (.inl rfl) (pe_lst pa_nil))
      (pss_cons (ps_set (i := 3) scHolesOf.nd rfl (.inl rfl) pe_int)
      (pss_cons (ps_for PassesOwn.never rfl (pi_list (pe_callB (call_sortedDI rfl) (by rfl) U.sorted (by decide +kernel) (pa_cons (pv 0) pa_nil))) (pg_name (i := 4) scHolesOf.nd rfl (.inl rfl))
        (pss_cons (ps_if (pt_cmpR op_lt (pv 3) (pv 4) (nomark _)) (pss_one (ps_expr (pe_bm PySem.F.plainAttrs_list PySem.F.slot_list_append PySem.F.type_list_append mt_append (pv 2) (pa_cons (ClX.pe_cmeth (pe_glob (v := .ref C) rfl T.mgC rfl) T.rd cB GB hr pass0 (pa_cons (pv 3) (pa_cons (pv 4) pa_nil))) pa_nil)))) pss_nil)
        (pss_one (ps_set (i := 3) scHolesOf.nd rfl (.inl rfl) (pe_op op_add (pv 4) (pe_dget hu (pv 0) (pv 4) (fun _ _ => rfl)))))))
      (pss_cons (ps_if (pt_cmpR op_lt (pv 3) (pv 1) (nomark _)) (pss_one (ps_expr (pe_bm PySem.F.plainAttrs_list PySem.F.slot_list_append PySem.F.type_list_append mt_append (pv 2) (pa_cons (ClX.pe_cmeth (pe_glob (v := .ref C) rfl T.mgC rfl) T.rd cB GB hr pass0 (pa_cons (pv 3) (pa_cons (pv 1) pa_nil))) pa_nil)))) pss_nil)
      (pss_one (ps_ret (pv 2)))))), ?_⟩
    refine ⟨Nat.zero_le _, fun l nl => ?_⟩
    have s0 := put_same (o := .lst []) nl
    refine ⟨_, rfl, d, _, ts.map (·.1), rfl, Rd.of (s0 _ _ hd), kv_fst ts, by rw [List.length_map]; exact hl, fun ys p py so np => ?_⟩
    have back : ∀ g ∈ ys, (g, lkI ts g) ∈ ts := fun g hg => by
      obtain ⟨x, hx, e⟩ := List.mem_map.mp (py.mem_iff.mp hg)
      have := lk_of tk hx
      rw [← e, this]
      exact hx
    have ylen : ys.length < 64 := by rw [py.length_eq, List.length_map]; exact hl
    have pl : p ≠ l := fun z => by rw [z, upd_same] at np; cases np
    have hwk : ∀ i, i ≤ ys.length → Sm.Wk (lkI ts) (ys.take i) (Sm.wk (lkI ts) (ys.take i)) ∧ (Sm.wk (lkI ts) (ys.take i)).2 ≤ n ∧ (Sm.wk (lkI ts) (ys.take i)).1.length ≤ i ∧ ∀ g, ys[i]? = some g → (Sm.wk (lkI ts) (ys.take i)).2 ≤ g := fun i hi => by
      have HH := Sm.walk_at tk (by omega) py so (fun x hx => lk_of tk hx) i hi
      exact HH
    refine ⟨p, rfl, ⟨_, SqL.of upd_same⟩, for_list (K := K) (a := p) (xs := ys.map V.int) (fun i σ H' => ∃ (as : List Addr) (v3 : Option V), σ = [some (.ref d), some (.int n), some (.ref l), some (.int (Sm.wk (lkI ts) (ys.take i)).2), v3] ∧ Same H H' ∧ H' l = some (.lst (as.map V.ref)) ∧ RunsAt C H' as (Sm.wk (lkI ts) (ys.take i)).1 ∧ H' p = some (.lst (ys.map V.int)))
      ⟨[], none, rfl, s0.trans (put_same np), by rw [upd_ne (Ne.symm pl), upd_same]; rfl, .nil, upd_same⟩ (fun i σ H' hi ⟨as, v3, e, q1, q2, q3, q4⟩ => SqL.of q4) ?_ ?_⟩
    · rintro i x σ H' hx ⟨as, v3, rfl, q1, q2, q3, q4⟩
      rw [List.getElem?_map] at hx
      obtain ⟨g, hg, rfl⟩ := Option.map_eq_some_iff.mp hx
      have ilt : i < ys.length := (List.getElem?_eq_some_iff.mp hg).1
      obtain ⟨W, w1, w2, w3⟩ := hwk i (by omega)
      have gmem : g ∈ ys := List.mem_of_getElem? hg
      have gok := tk.ok _ (back g gmem)
      have es : Sm.wk (lkI ts) (ys.take (i + 1)) = Sm.stp (lkI ts) (Sm.wk (lkI ts) (ys.take i)) g := by
        rw [List.take_succ, hg]
        exact Sm.wk_snoc _ _ _
      have alen : as.length ≤ i := by rw [paired_len q3]; exact w2
      have dget : ∀ H2, Same H H2 → DGet H2 d (.int g) (some (.int (lkI ts g))) := fun H2 s2 => by
        have z := DGet.k (k := Sum.inl g) (s2 _ _ hd)
        rw [val_of tk (back g gmem)] at z
        exact z
      have le := w3 g hg
      dsimp only at gok
      refine ⟨_, rfl, _, rfl, _, _, rfl, rfl, _, rfl, ite2 (fun h1 => ?_) fun h1 => ?_⟩
      · have h2 : (Sm.wk (lkI ts) (ys.take i)).2 < g := of_decide_eq_true h1
        refine ⟨_, rfl, .inl ⟨rfl, _, SqL.of q2⟩, rfl, _, rfl, _, rfl, (Sm.wk (lkI ts) (ys.take i)).2, g, rfl, W.e0, by unfold Most; have := W.e0; omega, by omega, by unfold Most; have := W.e0; omega, fun r dr nr ndr ne => ?_⟩
        obtain ⟨s3, r3⟩ := run_new (C := C) (f := (Sm.wk (lkI ts) (ys.take i)).2) (m := g - (Sm.wk (lkI ts) (ys.take i)).2) nr ndr ne
        have l3 := s3 _ _ q2
        refine ⟨l, _, _, rfl, rfl, l3, Nat.lt_of_le_of_lt (by rw [List.length_map]; exact alen) (Nat.lt_of_lt_of_le (show i < 64 by omega) (by decide)), ?_⟩
        have sH : Same H (upd (upd (upd H' dr (.own r)) r (.ins C dr (rf (Sm.wk (lkI ts) (ys.take i)).2 (g - (Sm.wk (lkI ts) (ys.take i)).2)))) l (.lst (as.map V.ref ++ [.ref r]))) := fun b o e => by
          rw [upd_ne (fun z => by rw [z, nl] at e; cases e)]
          exact s3 _ _ (q1 _ _ e)
        refine ⟨_, rfl, _, rfl, _, rfl, d, _, rfl, dget _ sH, _, _, rfl, rfl, ?_⟩
        refine ⟨as ++ [r], some (.int g), ?_, sH, by rw [upd_same, List.map_append]; rfl, ?_, ?_⟩
        · rw [es]; unfold Sm.stp; rfl
        · rw [es]; unfold Sm.stp; rw [if_pos h2]
          exact RunsAt.put (RunsAt.snoc (RunsAt.same q3 s3) r3) l3 lst_ins
        · rw [upd_ne pl]; exact s3 _ _ q4
      · have h2 : ¬ (Sm.wk (lkI ts) (ys.take i)).2 < g := of_decide_eq_false (by simpa using h1)
        refine ⟨_, rfl, _, rfl, _, rfl, d, _, rfl, dget _ q1, _, _, rfl, rfl, ?_⟩
        refine ⟨as, some (.int g), ?_, q1, q2, ?_, q4⟩
        · rw [es]; unfold Sm.stp; rfl
        · rw [es]; unfold Sm.stp; rw [if_neg h2]; exact q3
    · rintro σ H' ⟨as, v3, rfl, q1, q2, q3, q4⟩
      rw [List.length_map] at q3 ⊢
      obtain ⟨W, w1, w2, w3⟩ := hwk ys.length (Nat.le_refl _)
      have HLn := Sm.hl_of tk (by omega) py so (fun x hx => lk_of tk hx)
      rw [List.take_length] at W w1 w2 w3 q3 ⊢
      have alen : as.length ≤ ys.length := by rw [paired_len q3]; exact w2
      refine ⟨_, rfl, _, rfl, _, _, rfl, rfl, _, rfl, ite2 (fun h1 => ?_) fun h1 => ?_⟩
      · have h2 : (Sm.wk (lkI ts) ys).2 < n := of_decide_eq_true h1
        refine ⟨_, rfl, .inl ⟨rfl, _, SqL.of q2⟩, rfl, _, rfl, _, rfl, (Sm.wk (lkI ts) ys).2, n, rfl, W.e0, by unfold Most; have := W.e0; omega, by omega, by unfold Most; have := W.e0; omega, fun r dr nr ndr ne => ?_⟩
        obtain ⟨s3, r3⟩ := run_new (C := C) (f := (Sm.wk (lkI ts) ys).2) (m := n - (Sm.wk (lkI ts) ys).2) nr ndr ne
        have l3 := s3 _ _ q2
        refine ⟨l, _, _, rfl, rfl, l3, Nat.lt_of_le_of_lt (by rw [List.length_map]; exact alen) (Nat.lt_of_lt_of_le ylen (by decide)), _, rfl, ?_⟩
        refine k _ l (as ++ [r]) (Sm.fin n (Sm.wk (lkI ts) ys)) (fun b o e => ?_) nl (by rw [upd_same, List.map_append]; rfl) ?_ HLn ?_
        · rw [upd_ne (fun z => by rw [z, nl] at e; cases e)]
          exact s3 _ _ (q1 _ _ e)
        · unfold Sm.fin; rw [if_pos h2]
          exact RunsAt.put (RunsAt.snoc (RunsAt.same q3 s3) r3) l3 lst_ins
        · unfold Sm.fin; rw [if_pos h2, List.length_append]; show _ + 1 ≤ 64; omega
      · have h2 : ¬ (Sm.wk (lkI ts) ys).2 < n := of_decide_eq_false (by simpa using h1)
        refine ⟨_, rfl, ?_⟩
        refine k _ l as (Sm.fin n (Sm.wk (lkI ts) ys)) q1 nl q2 ?_ HLn ?_
        · unfold Sm.fin; rw [if_neg h2]; exact q3
        · unfold Sm.fin; rw [if_neg h2]; omega
theorem scHoles : FnScope ["self"] ["self"] (defScope s_Space_holes) := ⟨rfl, rfl, rfl, by decide +kernel, rfl, by decide +kernel, by decide +kernel⟩
theorem ok_holes {f fO : Addr} {fd fdO : FuncData} (F : Fun K "holes" "Space.holes" s_Space_holes f fd) (U : TS K mg S) (GO : FnOk P w K mg base CX0 6 fO fdO ["taken", "pages"] (spHolesOf C)) (DO : Def K mg "holes_of" fO fdO ["taken", "pages"]) : FnOk P w K mg base CX0 7 f fd ["self"] (spHoles C S) := by
  refine F.ok scHoles (fun vs H Q E h => ?_) (fun cdv A outer s H vs Q E hr h => ?_)
  · obtain ⟨a, d, n, mk, pol, ts, rfl, _⟩ := h
    rfl
  · obtain ⟨a, d, n, mk, pol, ts, rfl, ⟨dx, fs, ha, p1, p2, p3, p4, _⟩, hd, tk, hl, n1, n2, k⟩ := h
    refine ⟨_, pss_one (ps_ret (pe_call GO hr (by rfl) DO.at_ DO.kp DO.bd .nil pass0 (pa_cons (pe_fld (pv 0) rfl) (pa_cons (pe_fld (pv 0) rfl) pa_nil)))), ?_⟩
    exact ⟨_, rfl, a, S, dx, _, _, rfl, ha, U.cl, U.nT, p4, _, rfl, a, S, dx, _, _, rfl, ha, U.cl, U.nP, p1, d, n, ts, rfl, hd, tk, hl, n1, n2, k⟩
end
end Sc
namespace Sc
open PySem L2 NdefX
abbrev ovTail : List Value := [.type "OverflowError", .type "ArithmeticError", .type "Exception", .type "BaseException", .type "object"]
abbrev nfNR (cc cda : Addr) : NF := NF.of s_NoRoom___init__ "__init__" "NoRoom.__init__" [(("__class__" : Str), cc)] cda
/-- what the walk asks of NoRoom -/
structure TN (P : Program) (K : PySem.W.Frag) (mg : Str → Option Value) (CN f cc cda : Addr) (doc pm ct : Value) : Prop where
  g : Si.ExG K CN "OverflowError" "OverflowError.__new__" "OverflowError.__init__" ovTail
  lk : ∃ oc od sl, K.lookup f = some ⟨oc, od, .func ((nfNR cc cda).fd doc pm ct), sl⟩
  hcd : PySem.W.codeIn K (.ref cda) "NoRoom.__init__" = true
  lc : ∃ oc od sl, K.lookup cc = some ⟨oc, od, .cell (some (.ref CN)), sl⟩
  cd : ∃ oc od vs sl fi tf, K.lookup cda = some ⟨oc, od, .fields vs, sl⟩ ∧ vs[2]? = some (.str fi tf) ∧ ((P.main.file : Str) == fi) = true
  top : (P.main.scope.names.lookup ("super" : Str)).isSome = false
  su : mg "super" = none
  mr : PySem.W.mroIn K CN (.ref CN) = some true
  si : PySem.W.ks_superIn K CN CN "__init__" = some (some (.builtin "OverflowError.__init__"))
  op : PySem.W.nsIn K cStatics "thirdparty.any" = some none
  tk : PySem.W.takerIn K CN "many" = some none
  iC : PySem.W.findIn K (.ref CN) "__init__" = some (some (.ref f))
  tI : PySem.W.typeIn K (.ref f) = some (.type "function")
  mgN : mg "NoRoom" = some (.ref CN)
  sP : PySem.W.subIn K (.ref CN) (.ref CN) = some true
  ga : PySem.W.findIn K (.ref CN) "__getattribute__" = some (some (.builtin "BaseException.__getattribute__"))
  gg : PySem.W.findIn K (.ref CN) "__getattr__" = some none
  nmany : PySem.W.findIn K (.ref CN) "many" = some none
def spNR (CN : Addr) : Sp := fun vs H Q _ => ∃ (a : Addr) (m : Int), vs = [.ref a, .int m] ∧ H a = some (exo a CN none) ∧ 0 ≤ m ∧ m < 10 ^ 13 ∧ ∀ dx, H dx = none → dx ≠ a → Q .non (upd (upd H dx (exd dx [(("many" : Str), .int m)])) a (exo a CN (some dx)))
theorem log_lt {i : Int} (h0 : 0 ≤ i) (h : i < 10 ^ 13) : i.natAbs.log2 < 1920 := by
  by_cases z : i.natAbs = 0
  · rw [z]
    decide
  · have h1 : i.natAbs < 2 ^ 44 := by omega
    have := (Nat.log2_lt z).mpr h1
    omega
theorem len_int {i : Int} (h0 : 0 ≤ i) (h : i < 10 ^ 13) : (Str.ofString (toString i)).length ≤ 13 := PyProof.Rows.toString_length_le h0 (by decide) h
section
variable {P : Program} {w : World} {K : PySem.W.Frag} {mg : Str → Option Value} {base : Heap} {CN f cc cda : Addr} {doc pm ct : Value}
theorem scNR : NScope ["self", "many", "__class__"] ["self", "many"] ["__class__"] (nfNR cc cda).scope := nscope_by (show nscB _ _ _ (C8.fnScope s_NoRoom___init__) = true by decide +kernel)
theorem ok_norm (T : TN P K mg CN f cc cda doc pm ct) : FnOk P w K mg base CX0 1 f ((nfNR cc cda).fd doc pm ct) ["self", "many"] (spNR CN) := by
  obtain ⟨oc, od, sl, lk⟩ := T.lk
  obtain ⟨oc2, od2, sl2, lc⟩ := T.lc
  refine Si.fn_sup (N := ["self", "many", "__class__"]) (C := CN) (x := "self") (pl := fun env => _) scNR lk T.hcd rfl lc T.g (fun vs H Q E h => ?_) rfl (fun A outer s H E => ⟨rfl, T.su, rfl, ⟨cc, oc2, od2, sl2, rfl, lc⟩, ⟨f, oc, od, _, sl, _, rfl, lk, rfl, rfl⟩, ?_, T.top, rfl, rfl, T.mr, T.si, T.op⟩) (fun L => rfl) (fun L => rfl) (fun L => rfl) (fun L => rfl) (fun L => rfl) (fun A outer s H vs Q E hr h => ?_)
  · obtain ⟨a, m, rfl, _⟩ := h
    rfl
  · obtain ⟨q1, q2, q3, q4, q5, q6, q7, q8, q9⟩ := T.cd
    exact ⟨cda, q1, q2, q3, q4, q5, q6, rfl, q7, q8, q9⟩
  · obtain ⟨a, m, rfl, ea, m0, m1, k⟩ := h
    refine ⟨a, _, _, rfl, ea, pa_cons (pe_joined (.cons pe_str (.cons (pe_fmt (pv 1)) (.cons pe_str .nil)))) pa_nil, pss_one (Si.ps_osg T.g T.tk (pv 0) (pv 1)), ?_⟩
    have small : ∀ {n : Nat}, n ≤ 100 → n ≤ sizeLine := fun h => Nat.le_trans h (by decide)
    have n1 : ((Str.empty ++ "no hole for " : Str)).length = 12 := by decide +kernel
    have n2 : ((" pages" : String) : Str).length = 6 := by decide +kernel
    have lm := len_int m0 m1
    refine ⟨_, rfl, small (by rw [n1]; omega), _, rfl, .inr ⟨m, rfl, log_lt m0 m1, _, rfl, small ?_, ?_⟩⟩
    · rw [strLen_append, n1]; omega
    refine ⟨_, rfl, small ?_, ?_⟩
    · rw [strLen_append, strLen_append, n1, n2]; omega
    exact ⟨(by show 1 ≤ 1000; decide), ea, _, rfl, _, rfl, a, rfl, ea, fun dx h1 h2 => k dx h1 h2⟩
end
end Sc
/-! o.m(e, ..) in a try's body: what is raised is wished for at the caller's slots. -/
namespace Mw
open PySem PySem.Spec PyProof.Rows L2
section
variable {X : Cx} {CX : CXT} {k : Nat} {f C : Addr} {fd : FuncData} {ps : List Str} {sp : Sp} {E : L2.St → XK} {x m : Str} {p pos apos : Pos} {e o : Expr} {es : List Expr} {ta : TE} {t : TA}
def tMethW (C : Addr) (m : Str) (sp : Sp) (E : L2.St → XK) (ta : TE) (t : TA) : TE := fun σ H Q => ta σ H fun x H1 => ∃ a dx fs, x = .ref a ∧ H1 a = some (.ins C dx fs) ∧ fs.lookup m = none ∧ t σ H1 fun vs H2 => sp (x :: vs) H2 Q (E σ)
theorem pe_methW {pl : Sem Bool} (he : PE X o ta) (c : Cls X.K C) (hm : Meth X.K C m f) (F : FnOk X.prog X.w X.K X.mg X.base CX k f fd ps sp) (hr : Room k X.A) (hb : Binds X.K fd ps []) (hx : ∀ σ, PassesAt CX X σ (E σ)) (ha : PA X (e :: es) t)
    (h1 : starEach (e :: es) X.env = (false, eval e X.env) :: starEach es X.env := by rfl) (h2 : (backTo pos (starEach es X.env)).any (·.1) = false := by rfl)
    (h3 : eval (.Call (.Attribute o m apos) (e :: es) [] pos) X.env = (do
      let ov ← eval o X.env
      standAt apos.atName
      let (f, first) ← holding [ov] (getMethod ov m pl)
      callWith pos f first (backTo pos (starEach (e :: es) X.env)) (backToKw pos (keywordEach [] X.env))) := by rfl) : PE X (.Call (.Attribute o m apos) (e :: es) [] pos) (tMethW C m sp E ta t) := by
  refine ⟨fun pins s σ H Q I h => ?_⟩
  refine PySem.W.methodCall_KW (pl := pl) (thn (he.run pins s σ H _ I h) fun u s1 ⟨x, H1, I1, rx, a, dx, fs, ex, ea, l, q⟩ => ?_) h3
  subst ex
  cases rx
  refine getmeth_ok I1 ea c hm l (PySem.W.callWith_K (first := [.ref a]) (h₀ := X.base) I.ok.mod.kin hm.kp (thn (ha.run pos pins s1 σ H1 _ I1 q) fun us s2 ⟨vs, H2, I2, r, q2⟩ => ⟨I2.kIn, ?_⟩) h1 h2)
  exact run_fnS (us := .ref a :: us) (vs := .ref a :: vs) F hr hb (hx σ) I2 (.cons rfl r) q2
/-- o.f within a comprehension: K is told -/
theorem pe_fldK {K : PySem.W.Frag} {e : Expr} {f : Str} (h : PE X e ta) (h1 : attributeBase e f X.env (eval e X.env) = eval e X.env) (h2 : X.K = K := by rfl) : PE X (.Attribute e f pos) (tFld K ta f) := by
  subst h2
  exact pe_fld h h1
/-- the ways behind a test joined -/
theorem pt_cut {c : Expr} {t : TT} (h : PT X c t) : PT X c (fun σ H Q => ∃ R : Bool → Hp → Prop, t σ H R ∧ ∀ b H', R b H' → Q b H') := ⟨fun pins s σ H Q I h' => by
  obtain ⟨R, h1, h2⟩ := h'
  refine wpAny_mono (h.run pins s σ H R I h1) (fun b s' q => ?_) fun _ _ z => z
  obtain ⟨H', I', q⟩ := q
  exact ⟨H', I', h2 b H' q⟩⟩
end
end Mw
namespace Sc
open PySem L2
abbrev five : List V := [.str "first", .str "best", .str "worst", .str "next", .str "halves"]
def isPol (z : Str) : Bool := inV (.str z) five
theorem putF_len_le (f : Str) (v : V) {x : V} : ∀ fs : List (Str × V), fs.lookup f = some x → (putF f v fs).length ≤ fs.length
  | [], h => by cases h
  | (g, y) :: r, h => by
    unfold putF
    by_cases e : g = f
    · rw [if_pos e]
      exact Nat.le_refl _
    · rw [if_neg e, List.length_cons, List.length_cons]
      refine Nat.succ_le_succ (putF_len_le (x := x) f v r ?_)
      have : (f == g) = false := by simpa using fun z => e z.symm
      simpa [List.lookup, this] using h
/-- what isinstance asks of the class Run -/
structure IsR (K : PySem.W.Frag) (C : Addr) : Prop where
  ha : PySem.W.findIn K (.ref C) "__class__" = some (some (.builtin "object.__class__"))
  hn : PySem.W.specialIn K (.builtin "object.__class__") "__get__" = some (some (.builtin "getset_descriptor.__get__"))
  htk : PySem.W.takesIn K (.builtin "object.__class__") = some true
  hm : PySem.W.mroIn K C (.type "object") = some true
  ki : PySem.W.kitOne K (.ref C) (.type "int") = some false
theorem kit_self {K : PySem.W.Frag} {C : Addr} : PySem.W.kitOne K (.ref C) (.ref C) = some true := by
  unfold PySem.W.kitOne
  rw [if_pos (by simp)]
/-- the module's tuple of the five words -/
def PolAt (K : PySem.W.Frag) (mg : Str → Option Value) : Prop := ∃ tp, mg "POLICIES" = some (.ref tp) ∧ ∀ H, SqT K H tp five
def putS (a d : Addr) (H H' : Hp) : Prop := ∀ q o, q ≠ a → q ≠ d → H q = some o → H' q = some o
def spSInit (S : Addr) : Sp := fun vs H Q _ => ∃ (p dx : Addr) (n : Int) (z : Str), vs = [.ref p, .int n, .str z] ∧ H p = some (.ins S dx []) ∧ isPol z = true ∧
  ∀ H' d, (∀ q o, q ≠ p → H q = some o → H' q = some o) → H d = none → d ≠ p → H' d = some (.dK (kvI [])) → SpAt S H' p n (.str z) 0 d → Q .non H'
def spOcc (C S : Addr) : Sp := fun vs H Q _ => ∃ (a r d : Addr) (n mk f m : Int) (z : Str) (ts : List Pr), vs = [.ref a, .ref r] ∧ SpAt S H a n (.str z) mk d ∧ H d = some (.dK (kvI ts)) ∧ RunAt C H r f m ∧ (∀ x ∈ ts, x.1 ≠ f) ∧ ts.length < 1000 ∧
  ∀ H', putS a d H H' → H' d = some (.dK (kvI (ts ++ [(f, m)]))) → SpAt S H' a n (.str z) (if z = "next" then f + m else mk) d → Q .non H'
def spGive (C S : Addr) : Sp := fun vs H Q _ => ∃ (a r d : Addr) (n N mk f m : Int) (pol : V) (ts : List Pr), vs = [.ref a, .ref r] ∧ SpAt S H a n pol mk d ∧ H d = some (.dK (kvI ts)) ∧ RunAt C H r f m ∧ Sm.Tk N ts ∧ (f, m) ∈ ts ∧
  ∀ H', (∀ q o, q ≠ d → H q = some o → H' q = some o) → H' d = some (.dK (kvI (Sm.del ts f))) → SpAt S H' a n pol mk d → Q .non H'
/-- the least power of two that is not less than m -/
def IsPw (s m : Int) : Prop := 1 ≤ s ∧ m ≤ s ∧ (∃ i : Nat, s = 2 ^ i) ∧ ∀ j : Nat, m ≤ 2 ^ j → s ≤ 2 ^ j
def spPow : Sp := fun vs H Q _ => ∃ m : Int, vs = [.int m] ∧ 1 ≤ m ∧ m ≤ 100000 ∧ ∀ s, IsPw s m → s ≤ 2 * m → Q (.int s) H
section
variable {P : Program} {w : World} {K : PySem.W.Frag} {mg : Str → Option Value} {base : Heap} {C S : Addr} {mc : Value} {tM : Tok}
theorem scSInit : FnScope ["self", "pages", "policy"] ["self", "pages", "policy"] (defScope s_Space___init__) := ⟨rfl, rfl, rfl, by decide +kernel, rfl, by decide +kernel, by decide +kernel⟩
theorem ok_sinit {f : Addr} {fd : FuncData} {dvs : List V} (F : FunD K "__init__" "Space.__init__" (defArgs s_Space___init__) (defBody s_Space___init__) (defScope s_Space___init__) dvs [] f fd) (T : TR K mg C mc tM) (U : TS K mg S) (hp : PolAt K mg) : FnOk P w K mg base CX0 1 f fd ["self", "pages", "policy"] (spSInit S) := by
  refine F.ok scSInit (fun vs H Q E h => ?_) (fun cdv A outer s H vs Q E hr h => ?_)
  · obtain ⟨p, dx, n, z, rfl, _⟩ := h
    rfl
  · obtain ⟨p, dx, n, z, rfl, ep, hz, k⟩ := h
    obtain ⟨tp, mt, sq⟩ := hp
    refine ⟨_, pss_cons (ps_if (PW.pt (pw_or (pt_cmpR op_isN (pv 2) pe_non (nomark _)) (pw_or1 (PW.pt (pw_and (pt_val (pe_callB call_isiT (by rfl) T.isi (by decide +kernel) (pa_cons (pv 2) (pa_cons (pe_tup (pa_cons (pe_bltn (v := .ty "int") (by rfl) T.int (by decide +kernel) rfl) (pa_cons (pe_bltn (v := .ty "str") (by rfl) U.str (by decide +kernel) rfl) (pa_cons (pe_bltn (v := .ty "list") (by rfl) U.list (by decide +kernel) rfl) (pa_cons (pe_bltn (v := .ty "tuple") (by rfl) U.tuple (by decide +kernel) rfl) pa_nil))))) pa_nil))))
        (pw_and1 (pt_cmpR op_notIn_seq (pv 2) (pe_glob (v := .ref tp) rfl mt rfl) (by rfl)))))))) (pss_one ps_never) pss_nil)
      (pss_cons (ps_fld (pv 0) (pv 1) rfl) (pss_cons (ps_fld (pv 0) (pv 2) rfl) (pss_cons (ps_fld (pv 0) pe_int rfl) (pss_one (ps_fld (pv 0) pe_dnewK rfl))))), ?_⟩
    refine ⟨_, rfl, rfl, false, ?_, iteF ?_⟩
    · rw [decide_eq_false (fun q => by cases q)]
    refine ⟨_, rfl, (by show 4 ≤ sizeLine; decide), fun t nt => ?_⟩
    have s0 := put_same (o := .tup [.ty "int", .ty "str", .ty "list", .ty "tuple"]) nt
    have e0 := s0 _ _ ep
    refine ⟨.str z, t, _, .type "str", [.type "int", .type "str", .type "list", .type "tuple"], true, rfl, upd_same, .cons (.ty "int") (.cons (.ty "str") (.cons (.ty "list") (.cons (.ty "tuple") .nil))), .base (.str z), ?_, true, rfl, iteT ?_⟩
    · exact kitAny_cons (b := false) (kit_ty (by decide +kernel)) (fun _ => kitAny_cons (b := true) (r := true) (kit_ty (by decide +kernel)) (fun z => by cases z) fun _ => rfl) fun z => by cases z
    refine ⟨_, rfl, tp, five, rfl, .inr (sq _), rfl, rfl, false, ?_, iteF ?_⟩
    · show V.bl (!isPol z) = _
      rw [hz]
      rfl
    have n1 : ¬ (("_policy" : Str) = "_pages") := by decide +kernel
    have n2 : ¬ (("_mark" : Str) = "_pages") := by decide +kernel
    have n3 : ¬ (("_mark" : Str) = "_policy") := by decide +kernel
    have n4 : ¬ (("_taken" : Str) = "_pages") := by decide +kernel
    have n5 : ¬ (("_taken" : Str) = "_policy") := by decide +kernel
    have n6 : ¬ (("_taken" : Str) = "_mark") := by decide +kernel
    refine ⟨_, rfl, _, rfl, p, S, dx, [], rfl, e0, U.cl, U.nP, (by show 0 < 1000; decide), ?_⟩
    refine ⟨_, rfl, _, rfl, p, S, dx, _, rfl, upd_same, U.cl, U.nQ, (by show 1 < 1000; decide), ?_⟩
    refine ⟨_, rfl, p, S, dx, _, rfl, upd_same, U.cl, U.nM, (by show 2 < 1000; decide), fun d nd => ?_⟩
    rw [upd_upd, upd_upd] at nd ⊢
    have dp : d ≠ p := fun q => by rw [q, upd_same] at nd; cases nd
    have nd1 : (upd H t (HO.tup [.ty "int", .ty "str", .ty "list", .ty "tuple"])) d = none := by rw [upd_ne dp] at nd; exact nd
    have dt : d ≠ t := fun q => by rw [q, upd_same] at nd1; cases nd1
    have nd0 : H d = none := by rw [upd_ne dt] at nd1; exact nd1
    refine ⟨_, rfl, p, S, dx, _, rfl, by rw [upd_ne (Ne.symm dp), upd_same], U.cl, U.nT, (by show 3 < 1000; decide), ?_⟩
    refine k _ d (fun q o qp e => ?_) nd0 dp (by rw [upd_ne dp, upd_same]; rfl) ⟨dx, _, upd_same, ?_, ?_, ?_, ?_, (by show 4 < 900; decide), fun x x1 x2 x3 x4 => ?_⟩
    · rw [upd_ne qp, upd_ne (fun z => by rw [z, nd0] at e; cases e), upd_ne qp]
      exact s0 _ _ e
    · rw [lookup_putF, if_neg (fun z => n4 z.symm), lookup_putF, if_neg (fun z => n2 z.symm), lookup_putF, if_neg (fun z => n1 z.symm), lookup_putF, if_pos rfl]
    · rw [lookup_putF, if_neg (fun z => n5 z.symm), lookup_putF, if_neg (fun z => n3 z.symm), lookup_putF, if_pos rfl]
    · rw [lookup_putF, if_neg (fun z => n6 z.symm), lookup_putF, if_pos rfl]
    · rw [lookup_putF, if_pos rfl]
    · rw [lookup_putF, if_neg x4, lookup_putF, if_neg x3, lookup_putF, if_neg x2, lookup_putF, if_neg x1]
      rfl
theorem scOcc : FnScope ["self", "run"] ["self", "run"] (defScope s_Space_occupy) := ⟨rfl, rfl, rfl, by decide +kernel, rfl, by decide +kernel, by decide +kernel⟩
theorem ok_occ {f fE pp : Addr} {fd fdE : FuncData} (F : Fun K "occupy" "Space.occupy" s_Space_occupy f fd) (T : TR K mg C mc tM) (U : TS K mg S) (GE : FnOk P w K mg base CX0 1 fE fdE ["self"] (spEnd C)) (bE : Binds K fdE ["self"] []) (pE : PropOf K C "end" pp fE) : FnOk P w K mg base CX0 3 f fd ["self", "run"] (spOcc C S) := by
  refine F.ok scOcc (fun vs H Q E h => ?_) (fun cdv A outer s H vs Q E hr h => ?_)
  · obtain ⟨a, r, d, n, mk, f, m, z, ts, rfl, _⟩ := h
    rfl
  · obtain ⟨a, r, d, n, mk, f, m, z, ts, rfl, sp, hd, ⟨dr, er⟩, hf, hl, k⟩ := h
    obtain ⟨dx, fs, ha, p1, p2, p3, p4, p5, p6⟩ := id sp
    have hu := hu_of hr
    refine ⟨_, pss_cons (ps_dput hu (pe_fld (pv 0) rfl) (pe_fld (pv 1) rfl) (pe_fld (pv 1) rfl) rfl) (pss_one (ps_if (pt_cmpR op_eq (pe_fld (pv 0) rfl) pe_str (nomark _)) (pss_one (ps_fld (pv 0) (pe_prop (pv 1) T.cl pE GE hr bE .nil pass0 rfl) rfl)) pss_nil)), ?_⟩
    refine ⟨_, rfl, r, C, dr, _, _, rfl, er, T.cl, T.nM, rf_m _ _, _, rfl, a, S, dx, _, _, rfl, ha, U.cl, U.nT, p4, _, rfl, r, C, dr, _, _, rfl, er, T.cl, T.nF, rf_f _ _, d, _, rfl, DPut.k (k := Sum.inl f) hd (by rw [kv_len]; exact Nat.lt_of_lt_of_le hl (by decide)), ?_⟩
    rw [put_kv hf]
    have da : a ≠ d := fun q => by rw [q, hd] at ha; cases ha
    have rd : r ≠ d := fun q => by rw [q, hd] at er; cases er
    have ha2 : (upd H d (.dK (kvI (ts ++ [(f, m)])))) a = some (.ins S dx fs) := by rw [upd_ne da]; exact ha
    refine ⟨_, rfl, a, S, dx, _, _, rfl, ha2, U.cl, U.nQ, p2, rfl, _, rfl, ite2 (fun h1 => ?_) fun h1 => ?_⟩
    · have hz : z = "next" := V.str.inj (of_decide_eq_true h1)
      have er2 : (upd H d (.dK (kvI (ts ++ [(f, m)])))) r = some (.ins C dr (rf f m)) := by rw [upd_ne rd]; exact er
      refine ⟨_, rfl, r, dr, _, rfl, er2, r, f, m, rfl, ⟨dr, er2⟩, _, rfl, a, S, dx, _, rfl, ha2, U.cl, U.nM, Nat.lt_trans p5 (by decide), ?_⟩
      have m1 : ¬ (("_pages" : Str) = "_mark") := by decide +kernel
      have m2 : ¬ (("_policy" : Str) = "_mark") := by decide +kernel
      have m3 : ¬ (("_taken" : Str) = "_mark") := by decide +kernel
      refine k _ (fun q o qa qd e => by rw [upd_ne qa, upd_ne qd]; exact e) (by rw [upd_ne (Ne.symm da), upd_same]) ⟨dx, _, upd_same, ?_, ?_, ?_, ?_, ?_, fun x x1 x2 x3 x4 => ?_⟩
      · rw [lookup_putF, if_neg m1]; exact p1
      · rw [lookup_putF, if_neg m2]; exact p2
      · rw [lookup_putF, if_pos rfl, if_pos hz]
      · rw [lookup_putF, if_neg m3]; exact p4
      · refine Nat.lt_of_le_of_lt (putF_len_le _ _ _ p3) p5
      · rw [lookup_putF, if_neg x3]; exact p6 x x1 x2 x3 x4
    · have hz : ¬ z = "next" := fun q => by rw [q] at h1; simp at h1
      refine k _ (fun q o qa qd e => by rw [upd_ne qd]; exact e) upd_same ⟨dx, fs, ha2, p1, p2, by rw [if_neg hz]; exact p3, p4, p5, p6⟩
end
end Sc
namespace Sc
open PySem L2
theorem pow_ge : ∀ i : Nat, (1 : Int) ≤ 2 ^ i
  | 0 => Int.le_refl _
  | i + 1 => by
    have := pow_ge i
    rw [Int.pow_succ]
    omega
theorem pow_mon {i : Nat} : ∀ {j : Nat}, i ≤ j → (2 : Int) ^ i ≤ 2 ^ j
  | 0, h => by rw [Nat.le_zero.mp h]; exact Int.le_refl _
  | j + 1, h => by
    by_cases e : i = j + 1
    · rw [e]; exact Int.le_refl _
    · have h1 := pow_mon (i := i) (j := j) (by omega)
      have h2 := pow_ge j
      rw [Int.pow_succ]
      omega
theorem fs_at {α β : Type} {g : α → Option β} {x : α} {c : β} : ∀ {L : List α} {i : Nat}, L[i]? = some x → (L.take i).findSome? g = none → g x = some c → L.findSome? g = some c
  | [], i, h, _, _ => by simp at h
  | y :: r, 0, h, _, e => by
    cases h
    rw [List.findSome?_cons, e]
  | y :: r, i + 1, h, hn, e => by
    rw [List.take_succ_cons, List.findSome?_cons] at hn
    cases hy : g y with
    | some z => rw [hy] at hn; cases hn
    | none =>
      rw [hy] at hn
      rw [List.findSome?_cons, hy]
      exact fs_at (L := r) (i := i) (by simpa using h) hn e
def optV : Option Int → V
  | none => .non
  | some i => .int i
/-- a choice among holes that are large enough -/
def spCh (C : Addr) (pk : List Pr → Int → Int → Option Int) : Sp := fun vs H Q _ => ∃ (l : Addr) (s mk : Int) (as : List Addr) (L : List Pr), vs = [.ref l, .int s, .int mk] ∧ H l = some (.lst (as.map V.ref)) ∧ RunsAt C H as L ∧ (∀ x ∈ L, 0 ≤ x.1 ∧ s ≤ x.2 ∧ x.1 + x.2 ≤ 1000) ∧ L ≠ [] ∧ 1 ≤ s ∧ s ≤ 1000 ∧ 0 ≤ mk ∧ mk ≤ 1000 ∧
  Q (optV (pk L s mk)) H
def hv (s : Int) (x : Pr) : Option Int := if (x.1 + s - 1) / s * s + s ≤ x.1 + x.2 then some ((x.1 + s - 1) / s * s) else none
def pkHalves (L : List Pr) (s _ : Int) : Option Int := L.findSome? (hv s)
def szOk (z : Str) (s m : Int) : Prop := if z = "halves" then IsPw s m else s = m
def big (L : List Pr) (s : Int) : List Pr := L.filter fun x => decide (x.2 ≥ s)
def ans (pk : List Pr → Int → Int → Option Int) (L : List Pr) (s mk : Int) : Option Int := if big L s = [] then none else pk (big L s) s mk
def Bnd (pk : List Pr → Int → Int → Option Int) : Prop := ∀ L s mk c, (∀ x ∈ L, 0 ≤ x.1 ∧ s ≤ x.2 ∧ x.1 + x.2 ≤ 1000) → 1 ≤ s → 0 ≤ mk → pk L s mk = some c → 0 ≤ c ∧ c ≤ 10 ^ 6
def Gone (CN : Addr) (m : Int) (H : Hp) (E : XK) : Prop := ∀ H' dd, Same H H' → H dd = none → H' dd = some (.xd [(("many" : Str), .int m)]) → E (.ref CN) (some dd) H'
def spChoose (C S CN : Addr) (z : Str) (pk : List Pr → Int → Int → Option Int) : Sp := fun vs H Q E => ∃ (a d : Addr) (n mk m : Int) (ts : List Pr), vs = [.ref a, .int m] ∧ SpAt S H a n (.str z) mk d ∧ H d = some (.dK (kvI ts)) ∧ Sm.Tk n ts ∧ ts.length < 64 ∧ 1 ≤ n ∧ n ≤ 1000 ∧ 1 ≤ m ∧ m ≤ 1000 ∧ (z = "halves" → m ≤ 500) ∧ 0 ≤ mk ∧ mk ≤ 1000 ∧
  ∀ L s, Sm.HL n ts L → szOk z s m → 1 ≤ s → s ≤ 1000 → (∀ c, ans pk L s mk = some c → ∀ H' r, Same H H' → H r = none → RunAt C H' r c s → Q (.ref r) H') ∧ (ans pk L s mk = none → Gone CN m H E)
section
variable {P : Program} {w : World} {K : PySem.W.Frag} {mg : Str → Option Value} {base : Heap} {C S CN : Addr} {mc : Value} {tM : Tok}
theorem scGive : FnScope ["self", "run"] ["self", "run"] (defScope s_Space_give_back) := ⟨rfl, rfl, rfl, by decide +kernel, rfl, by decide +kernel, by decide +kernel⟩
theorem ok_give {f : Addr} {fd : FuncData} (F : Fun K "give_back" "Space.give_back" s_Space_give_back f fd) (T : TR K mg C mc tM) (Z : IsR K C) (U : TS K mg S) : FnOk P w K mg base CX0 1 f fd ["self", "run"] (spGive C S) := by
  refine F.ok scGive (fun vs H Q E h => ?_) (fun cdv A outer s H vs Q E hr h => ?_)
  · obtain ⟨a, r, d, n, N, mk, f, m, pol, ts, rfl, _⟩ := h
    rfl
  · obtain ⟨a, r, d, n, N, mk, f, m, pol, ts, rfl, sp, hd, ⟨dr, er⟩, tk, hm, k⟩ := h
    obtain ⟨dx, fs, ha, p1, p2, p3, p4, p5, p6⟩ := id sp
    have hu := hu_of hr
    refine ⟨_, pss_cons (ps_if (PW.pt (pw_or (pt_not (pt_val (pe_callB call_isi (by rfl) T.isi (by decide +kernel) (pa_cons (pv 1) (pa_cons (pe_glob (v := .ref C) rfl T.mgC rfl) pa_nil))))) (pw_or1 (pt_cmpR op_ne (pe_dget1 hu (pe_fld (pv 0) rfl) (pe_fld (pv 1) rfl) ⟨rfl, rfl, rfl, rfl⟩) (pe_fld (pv 1) rfl) (nomark _))))) (pss_one ps_never) pss_nil)
      (pss_one (ps_ddel (pe_fld (pv 0) rfl) (pe_fld (pv 1) rfl))), ?_⟩
    refine ⟨_, rfl, _, _, .ref C, .ref C, true, rfl, .own C, .base (.ins er T.cl Z.ha Z.hn Z.htk Z.hm), kit_self, true, rfl, iteF ?_⟩
    refine ⟨_, rfl, a, S, dx, _, _, rfl, ha, U.cl, U.nT, p4, d, rfl, .inl ⟨_, Rd.of hd⟩, _, rfl, r, C, dr, _, _, rfl, er, T.cl, T.nF, rf_f _ _, _, DGet.k (k := Sum.inl f) hd, ?_⟩
    rw [val_of tk hm]
    refine ⟨_, rfl, r, C, dr, _, _, rfl, er, T.cl, T.nM, rf_m _ _, rfl, false, ?_, iteF ?_⟩
    · rw [show decide ((some (V.int m)).getD .non = .int m) = true from decide_eq_true rfl]
      rfl
    refine ⟨_, rfl, a, S, dx, _, _, rfl, ha, U.cl, U.nT, p4, _, rfl, r, C, dr, _, _, rfl, er, T.cl, T.nF, rf_f _ _, d, _, Sum.inl f, rfl, hd, rfl, by rw [val_of tk hm]; rfl, ?_⟩
    rw [drop_kv]
    refine k _ (fun q o qd e => by rw [upd_ne qd]; exact e) upd_same (sp.put hd dk_ins)
theorem scPow : FnScope ["many", "size"] ["many"] (defScope s__power) := ⟨rfl, rfl, rfl, by decide +kernel, rfl, by decide +kernel, by decide +kernel⟩
theorem ok_pow {f : Addr} {fd : FuncData} (F : Fun K "_power" "_power" s__power f fd) : FnOk P w K mg base CX0 1 f fd ["many"] spPow := by
  refine F.ok scPow (fun vs H Q E h => ?_) (fun cdv A outer s H vs Q E hr h => ?_)
  · obtain ⟨m, rfl, _⟩ := h
    rfl
  · obtain ⟨m, rfl, m1, m2, k⟩ := h
    refine ⟨_, pss_cons (ps_set (i := 1) scPow.nd rfl (.inl rfl) pe_int) (pss_cons (ps_while PassesOwn.never (pt_cmpR op_lt (pv 1) (pv 0) (nomark _)) (pss_one (ps_set (i := 1) scPow.nd rfl (.inl rfl) (pe_op op_mul (pv 1) pe_int)))) (pss_one (ps_ret (pv 1)))), ?_⟩
    refine while_by (fun σ H' => H' = H ∧ ∃ i : Nat, σ = [some (.int m), some (.int (2 ^ i))] ∧ ∀ j, j < i → (2 : Int) ^ j < m) (fun σ _ => match σ with | [_, some (.int x)] => (m - x).toNat | _ => 0) ⟨rfl, 0, rfl, fun j hj => absurd hj (Nat.not_lt_zero _)⟩ ?_ ?_
    · rintro σ H' ⟨rfl, i, rfl, hj⟩
      have p1 : (1 : Int) ≤ 2 ^ i := pow_ge i
      refine ⟨_, rfl, _, rfl, _, _, rfl, rfl, _, rfl, ?_⟩
      by_cases h1 : (2 : Int) ^ i < m
      · rw [decide_eq_true h1]
        refine iteT ⟨_, rfl, _, _, rfl, rfl, .inl ⟨by omega, by omega⟩, ⟨rfl, i + 1, by rw [Int.pow_succ]; rfl, fun j hj' => ?_⟩, ?_⟩
        · by_cases e : j = i
          · rw [e]; exact h1
          · exact hj j (by omega)
        · show (m - 2 ^ i * 2).toNat < (m - 2 ^ i).toNat
          omega
      · rw [decide_eq_false h1]
        refine iteF ⟨_, rfl, k _ ⟨p1, by omega, ⟨i, rfl⟩, fun j hj' => ?_⟩ ?_⟩
        · by_cases e : i ≤ j
          · exact pow_mon e
          · have := hj j (by omega)
            omega
        · cases i with
          | zero => show (1 : Int) ≤ _; omega
          | succ i =>
            have := hj i (by omega)
            rw [Int.pow_succ]
            omega
    · rintro σ H' Q Q' hq ⟨x, h1, y, h2, h⟩
      exact ⟨x, h1, y, h2, h.imp fun i h => h.imp fun j ⟨a, b, v, c, d⟩ => ⟨a, b, v, c, hq _ _ d⟩⟩
theorem scHalves : FnScope ["holes", "many", "mark", "hole", "first"] ["holes", "many", "mark"] (defScope s__halves) := ⟨rfl, rfl, rfl, by decide +kernel, rfl, by decide +kernel, by decide +kernel⟩
theorem ok_halves {f fE pp : Addr} {fd fdE : FuncData} (F : Fun K "_halves" "_halves" s__halves f fd) (T : TR K mg C mc tM) (GE : FnOk P w K mg base CX0 1 fE fdE ["self"] (spEnd C)) (bE : Binds K fdE ["self"] []) (pE : PropOf K C "end" pp fE) : FnOk P w K mg base CX0 3 f fd ["holes", "many", "mark"] (spCh C pkHalves) := by
  refine F.ok scHalves (fun vs H Q E h => ?_) (fun cdv A outer s H vs Q E hr h => ?_)
  · obtain ⟨l, s, mk, as, L, rfl, _⟩ := h
    rfl
  · obtain ⟨l, s, mk, as, L, rfl, hl, rs, bd, ne, s1, s2, m0, m1, k⟩ := h
    have hlen := paired_len rs
    refine ⟨_, pss_cons (ps_for PassesOwn.never rfl (pi_list (pv 0)) (pg_name (i := 3) scHalves.nd rfl (.inl rfl))
        (pss_cons (ps_set (i := 4) scHalves.nd rfl (.inl rfl) (pe_op op_mul (pe_op op_fdivN (pe_op op_sub (pe_op op_add (pe_fld (pv 3) rfl) (pv 1)) pe_int) (pv 1)) (pv 1)))
        (pss_one (ps_if (pt_cmpR op_le (pe_op op_add (pv 4) (pv 1)) (pe_prop (pv 3) T.cl pE GE hr bE .nil pass0 rfl) (nomark _)) (pss_one (ps_ret (pv 4))) pss_nil))))
      (pss_one (ps_ret pe_non)), ?_⟩
    refine ⟨_, rfl, l, rfl, ⟨_, SqL.of hl⟩, for_list (K := K) (a := l) (xs := as.map V.ref) (fun i σ H' => H' = H ∧ ∃ v3 v4 : Option V, σ = [some (.ref l), some (.int s), some (.int mk), v3, v4] ∧ (L.take i).findSome? (hv s) = none) ⟨rfl, none, none, rfl, rfl⟩ (fun i σ H' hi z => by rw [z.1]; exact SqL.of hl) ?_ ?_⟩
    · rintro i x σ H' hx ⟨rfl, v3, v4, rfl, hn⟩
      rw [List.getElem?_map] at hx
      obtain ⟨b, hb, rfl⟩ := Option.map_eq_some_iff.mp hx
      have il : i < L.length := by rw [← hlen]; exact (List.getElem?_eq_some_iff.mp hb).1
      have hL : L[i]? = some L[i] := List.getElem?_eq_getElem il
      obtain ⟨db, eb⟩ := paired_ith rs hb hL
      obtain ⟨b0, b1, b2⟩ := bd L[i] (List.getElem_mem il)
      have es : L.take (i + 1) = L.take i ++ [L[i]] := by rw [List.take_succ, hL]; rfl
      have hmul : 0 ≤ (L[i].1 + s - 1) / s * s ∧ (L[i].1 + s - 1) / s * s ≤ L[i].1 + s - 1 := ⟨Int.mul_nonneg (Int.ediv_nonneg (by omega) (by omega)) (by omega), Int.ediv_mul_le _ (by omega)⟩
      have hq : 0 ≤ (L[i].1 + s - 1) / s ∧ (L[i].1 + s - 1) / s ≤ L[i].1 + s - 1 := ⟨Int.ediv_nonneg (by omega) (by omega), Int.ediv_le_self _ (by omega)⟩
      have fd : (L[i].1 + s - 1).fdiv s = (L[i].1 + s - 1) / s := Int.fdiv_eq_ediv_of_nonneg _ (by omega)
      refine ⟨_, rfl, b, C, db, _, _, rfl, eb, T.cl, T.nF, rf_f _ _, _, rfl, _, _, rfl, rfl, _, _, rfl, rfl, _, rfl, _, _, rfl, rfl, ⟨by omega, by omega⟩, _, rfl, _, _, rfl, rfl, .inl ⟨by rw [fd]; omega, by rw [fd]; omega⟩, ?_⟩
      rw [fd]
      refine ⟨_, rfl, _, rfl, _, _, rfl, rfl, _, rfl, b, db, _, rfl, eb, b, _, _, rfl, ⟨db, eb⟩, _, _, rfl, rfl, _, rfl, ite2 (fun h1 => ?_) fun h1 => ?_⟩
      · have h2 : (L[i].1 + s - 1) / s * s + s ≤ L[i].1 + L[i].2 := of_decide_eq_true h1
        refine ⟨_, rfl, ?_⟩
        have : pkHalves L s mk = some ((L[i].1 + s - 1) / s * s) := by
          unfold pkHalves
          exact fs_at hL hn (by unfold hv; rw [if_pos h2])
        rw [this] at k
        exact k
      · have h2 : ¬ (L[i].1 + s - 1) / s * s + s ≤ L[i].1 + L[i].2 := of_decide_eq_false (by simpa using h1)
        refine ⟨rfl, _, _, rfl, ?_⟩
        rw [es, List.findSome?_append, hn]
        have : hv s L[i] = none := by unfold hv; rw [if_neg h2]
        simp [this]
    · rintro σ H' ⟨rfl, v3, v4, rfl, hn⟩
      rw [List.length_map, hlen, List.take_length] at hn
      have : pkHalves L s mk = none := hn
      rw [this] at k
      exact k
end
end Sc
namespace Sc
open PySem L2
/-- what raising NoRoom leaves -/
theorem norm_heap {H1 : Hp} {a dx CN : Addr} {m : Int} (ha : H1 a = none) (hd : H1 dx = none) (ne : dx ≠ a) : Same H1 (upd (L2.del (upd (upd (upd H1 a (exo a CN none)) dx (exd dx [(("many" : Str), .int m)])) a (exo a CN (some dx))) a) dx (.xd [(("many" : Str), .int m)])) := fun q o e => by
  have q1 : q ≠ a := fun z => by rw [z, ha] at e; cases e
  have q2 : q ≠ dx := fun z => by rw [z, hd] at e; cases e
  rw [upd_ne q2, del_ne q1, upd_ne q1, upd_ne q2, upd_ne q1]
  exact e
/-- the answer lies in a hole -/
def Fit (pk : List Pr → Int → Int → Option Int) : Prop := ∀ L s mk c, (∀ x ∈ L, 0 ≤ x.1 ∧ s ≤ x.2 ∧ x.1 + x.2 ≤ 1000) → 1 ≤ s → 0 ≤ mk → pk L s mk = some c → ∃ x ∈ L, x.1 ≤ c ∧ c + s ≤ x.1 + x.2
theorem fit_halves : Fit pkHalves := fun L s mk c bd s1 _ h => by
  unfold pkHalves at h
  obtain ⟨x, hx, e⟩ := List.exists_of_findSome?_eq_some h
  refine ⟨x, hx, ?_⟩
  unfold hv at e
  by_cases q : (x.1 + s - 1) / s * s + s ≤ x.1 + x.2
  · rw [if_pos q] at e
    cases e
    have e1 := Int.mul_ediv_add_emod (x.1 + s - 1) s
    rw [Int.mul_comm] at e1
    have e2 := Int.emod_lt_of_pos (x.1 + s - 1) (show 0 < s by omega)
    exact ⟨by omega, q⟩
  · rw [if_neg q] at e
    cases e
/-- what the answer is, of the space's own pages -/
theorem fit_free {pk : List Pr → Int → Int → Option Int} (hpk : Fit pk) {n mk s c : Int} {ts L : List Pr} (tk : Sm.Tk n ts) (hl : Sm.HL n ts L) (n2 : n ≤ 1000) (s1 : 1 ≤ s) (k1 : 0 ≤ mk) (h : ans pk L s mk = some c) : 0 ≤ c ∧ c + s ≤ n ∧ (∀ p, Sm.In (c, s) p → Sm.Fr ts p) ∧ Sm.Tk n (ts ++ [(c, s)]) := by
  unfold ans at h
  by_cases hb : big L s = []
  · rw [if_pos hb] at h; cases h
  rw [if_neg hb] at h
  have bd : ∀ x ∈ big L s, 0 ≤ x.1 ∧ s ≤ x.2 ∧ x.1 + x.2 ≤ 1000 := fun x hx => by
    have h1 := List.mem_filter.mp hx
    have h2 := hl.ok x h1.1
    have h3 : s ≤ x.2 := by simpa using h1.2
    omega
  obtain ⟨x, hx, x1, x2⟩ := hpk _ _ _ _ bd s1 k1 h
  have hx0 := hl.ok x (List.mem_filter.mp hx).1
  have fr : ∀ p, Sm.In (c, s) p → Sm.Fr ts p := fun p ⟨q1, q2⟩ => (hl.win (p := c) (s := s) (by omega) s1 (by omega)).mpr ⟨x, (List.mem_filter.mp hx).1, x1, x2⟩ p q1 q2
  exact ⟨by omega, by omega, fr, tk.snoc (x := (c, s)) (by show 0 ≤ c; omega) s1 (by show c + s ≤ n; omega) fr⟩
abbrev NAn : List Str := ["policy", "holes", "many", "mark", "size", "great", "choice", "first", "hole"]
def spSize : Sp := fun vs H Q _ => ∃ (z : Str) (m : Int), vs = [.str z, .int m] ∧ 1 ≤ m ∧ m ≤ 1000 ∧ (z = "halves" → m ≤ 500) ∧ ∀ s, szOk z s m → 1 ≤ s → s ≤ 1000 → Q (.int s) H
/-- what one of the five words answers: a run of its own, or nothing -/
def spAns (C : Addr) (z : Str) (pk : List Pr → Int → Int → Option Int) : Sp := fun vs H Q _ => ∃ (l : Addr) (mk m : Int) (as : List Addr) (L : List Pr), vs = [.str z, .ref l, .int m, .int mk] ∧ H l = some (.lst (as.map V.ref)) ∧ RunsAt C H as L ∧ (∀ x ∈ L, 0 ≤ x.1 ∧ x.1 + x.2 ≤ 1000) ∧ L.length ≤ 64 ∧ 1 ≤ m ∧ m ≤ 1000 ∧ (z = "halves" → m ≤ 500) ∧ 0 ≤ mk ∧ mk ≤ 1000 ∧
  ∀ s, szOk z s m → 1 ≤ s → s ≤ 1000 → (∀ c, ans pk L s mk = some c → ∀ H' r, Same H H' → H r = none → RunAt C H' r c s → Q (.ref r) H') ∧ (ans pk L s mk = none → ∀ H', Same H H' → Q .non H')
section
variable {P : Program} {w : World} {K : PySem.W.Frag} {mg : Str → Option Value} {base : Heap} {C S CN : Addr} {mc : Value} {tM : Tok}
theorem scSize : FnScope ["policy", "many"] ["policy", "many"] (defScope s_size_of) := ⟨rfl, rfl, rfl, by decide +kernel, rfl, by decide +kernel, by decide +kernel⟩
theorem ok_size {f fP : Addr} {fd fdP : FuncData} (F : Fun K "size_of" "size_of" s_size_of f fd) (GP : FnOk P w K mg base CX0 1 fP fdP ["many"] spPow) (DP : Def K mg "_power" fP fdP ["many"]) : FnOk P w K mg base CX0 2 f fd ["policy", "many"] spSize := by
  refine F.ok scSize (fun vs H Q E h => ?_) (fun cdv A outer s H vs Q E hr h => ?_)
  · obtain ⟨z, m, rfl, _⟩ := h
    rfl
  · obtain ⟨z, m, rfl, m1, m2, mz, k⟩ := h
    have hr1 : Room 1 _ := hr
    refine ⟨_, pss_cons (ps_if (pt_cmpR op_eq (pv 0) pe_str (nomark _)) (pss_one (ps_ret (pe_call GP hr1 (by rfl) DP.at_ DP.kp DP.bd .nil pass0 (pa_cons (pv 1) pa_nil)))) pss_nil) (pss_one (ps_ret (pv 1))), ?_⟩
    refine ⟨_, rfl, rfl, _, rfl, ite2 (fun h1 => ?_) fun h1 => ?_⟩
    · have hz : z = "halves" := V.str.inj (of_decide_eq_true h1)
      have := mz hz
      refine ⟨_, rfl, m, rfl, m1, by omega, fun s0 hs hb => k s0 ?_ hs.1 (by omega)⟩
      unfold szOk
      rw [if_pos hz]
      exact hs
    · have hz : ¬ z = "halves" := fun q => by rw [q] at h1; simp at h1
      refine ⟨_, rfl, k m ?_ m1 m2⟩
      unfold szOk
      rw [if_neg hz]
/-- raise NoRoom(many): its term's reading -/
theorem raise_norm {σ : L2.St} {H H0 : Hp} {E : XK} {m : Int} (s0 : Same H0 H) (m0 : 0 ≤ m) (m1 : m < 10 ^ 13) (i : Nat) (hi : σ[i]? = some (some (.int m))) (g : Gone CN m H0 E) :
    tMkO CN (spNR CN) [] (tCons (tVar i) tNil) σ H (fun cls d H' => E cls d H') := by
  refine ⟨_, hi, (by show 1 ≤ 1000; decide), fun a na => ⟨a, m, rfl, upd_same, m0, m1, fun dx ndx ne => ?_⟩⟩
  have hd : H dx = none := by rw [upd_ne ne] at ndx; exact ndx
  refine ⟨rfl, dx, _, upd_same, by rw [upd_ne ne, upd_same], hd, ?_⟩
  exact g _ dx (s0.trans (norm_heap na hd ne)) (s0.free hd) upd_same
theorem scAns : FnScope NAn ["policy", "holes", "many", "mark"] (defScope s_answer_of) := ⟨rfl, rfl, rfl, by decide +kernel, rfl, by decide +kernel, by decide +kernel⟩
theorem ok_ans {z : Str} {pk : List Pr → Int → Int → Option Int} {f fI fZ fC cp : Addr} {fd fdI fdZ fdC : FuncData} {psC : List Str}
    (F : Fun K "answer_of" "answer_of" s_answer_of f fd) (T : TR K mg C mc tM)
    (MI : Mk K C fI) (GI : FnOk P w K mg base CX0 3 fI fdI ["self", "first", "many"] (spInit C)) (bI : Binds K fdI ["self", "first", "many"] [])
    (GZ : FnOk P w K mg base CX0 2 fZ fdZ ["policy", "many"] spSize) (DZ : Def K mg "size_of" fZ fdZ ["policy", "many"])
    (GC : FnOk P w K mg base CX0 3 fC fdC psC (spCh C pk)) (kC : PySem.W.keepIn K (.ref fC) = true) (bC : Binds K fdC psC []) (hcp : mg "_CHOICES" = some (.ref cp)) (kd : KDct K w cp z (.ref fC)) (hpk : Fit pk) :
    FnOk P w K mg base CX0 5 f fd ["policy", "holes", "many", "mark"] (spAns C z pk) := by
  refine F.ok scAns (fun vs H Q E h => ?_) (fun cdv A outer s H vs Q E hr h => ?_)
  · obtain ⟨l, mk, m, as, L, rfl, _⟩ := h
    rfl
  · obtain ⟨l, mk, m, as, L, rfl, el, rl, bd0, ll, m1, m2, mz, k1, k2, k⟩ := h
    have hr2 : Room 2 _ := hr.mono (by decide)
    have hr3 : Room 3 _ := hr.mono (by decide)
    have hr4 : Room 4 _ := hr.mono (by decide)
    refine ⟨_, pss_cons (ps_set (i := 4) scAns.nd rfl (.inr rfl) (pe_call GZ hr2 (by rfl) DZ.at_ DZ.kp DZ.bd .nil pass0 (pa_cons (pv 0) (pa_cons (pv 2) pa_nil))))
      (pss_cons (ps_setLc (i := 5) (own := [("hole", 8)]) (g := gName 8) rfl scAns.nd rfl rfl (sw_true rfl rfl rfl (by decide +kernel)) (pi_list (pv 1)) (blkOk_by (N := NAn) (sc := defScope s_answer_of) (by decide +kernel))
          (fun _ _ _ _ _ => pg_name (i := 8) scAns.nd rfl (Or.inl rfl)) (fun _ _ _ _ _ => pts_one (pt_cmpR op_ge (Mw.pe_fldK (K := K) (pv 8) rfl) (pv 4) (nomark _))) (fun _ _ _ _ _ => pv 8))
      (pss_cons (ps_if (pt_not (pt_truth (pv 5) (by intro _; rfl))) (pss_one (ps_ret pe_non)) pss_nil)
      (pss_cons (ps_set (i := 6) scAns.nd rfl (.inl rfl) (pe_ix ix_kdict (pe_glob (v := .ref cp) rfl hcp rfl) (pv 0) (fun _ _ => rfl)))
      (pss_cons (ps_set (i := 7) scAns.nd rfl (.inl rfl) (pe_callL (i := 6) GC hr3 rfl (Or.inl rfl) kC bC .nil pass0 (pa_cons (pv 5) (pa_cons (pv 4) (pa_cons (pv 3) pa_nil)))))
      (pss_cons (ps_if (pt_cmpR op_isN (pv 7) pe_non (nomark _)) (pss_one (ps_ret pe_non)) pss_nil)
      (pss_one (ps_ret (pe_make MI GI hr4 (by rfl) T.mgC bI .nil pass0 (pa_cons (pv 7) (pa_cons (pv 4) pa_nil)))))))))), ?_⟩
    have alen := paired_len rl
    refine ⟨_, rfl, _, rfl, z, m, rfl, m1, m2, mz, fun s0 hs0 s1 s2 => ?_⟩
    obtain ⟨kA, kB⟩ := k s0 hs0 s1 s2
    refine ⟨_, rfl, l, rfl, ⟨_, SqL.of el⟩, fun D nD => lc_list (K := K) (a := l) (xs := as.map V.ref) (fun i H' => ∃ bs : List Addr, Same H H' ∧ H' D = some (.lst (bs.map V.ref)) ∧ RunsAt C H bs (big (L.take i) s0) ∧ bs.length ≤ i) ⟨[], put_same nD, upd_same, .nil, Nat.le_refl _⟩ (fun i H' hi ⟨bs, q1, _⟩ => SqL.of (q1 _ _ el)) ?_ ?_⟩
    · rintro i x H' hx ⟨bs, q1, q2, q3, q4⟩
      rw [List.getElem?_map] at hx
      obtain ⟨b, hb, rfl⟩ := Option.map_eq_some_iff.mp hx
      have il : i < L.length := by rw [← alen]; exact (List.getElem?_eq_some_iff.mp hb).1
      have hL : L[i]? = some L[i] := List.getElem?_eq_getElem il
      have rb := paired_ith rl hb hL
      obtain ⟨db, eb⟩ := rb
      have es : L.take (i + 1) = L.take i ++ [L[i]] := by rw [List.take_succ, hL]; rfl
      refine ⟨rfl, _, rfl, b, C, db, _, _, rfl, q1 _ _ eb, T.cl, T.nM, rf_m _ _, _, rfl, _, _, rfl, rfl, _, rfl, ite2 (fun h1 => ?_) fun h1 => ?_⟩
      · have h2 : L[i].2 ≥ s0 := of_decide_eq_true h1
        refine ⟨_, rfl, _, q2, Nat.lt_of_le_of_lt (by rw [List.length_map]; exact q4) (Nat.lt_of_lt_of_le (show i < 64 by omega) (by decide)), bs ++ [b], fun c o e => ?_, by rw [upd_same, List.map_append]; rfl, ?_, by rw [List.length_append]; show _ + 1 ≤ _; omega⟩
        · rw [upd_ne (fun z => by rw [z, nD] at e; cases e)]
          exact q1 _ _ e
        · rw [es]
          unfold big at q3 ⊢
          rw [List.filter_append, List.filter_cons_of_pos (by simpa using h2)]
          exact RunsAt.snoc q3 ⟨db, eb⟩
      · have h2 : ¬ L[i].2 ≥ s0 := of_decide_eq_false (by simpa using h1)
        refine ⟨bs, q1, q2, ?_, Nat.le_succ_of_le q4⟩
        rw [es]
        unfold big at q3 ⊢
        rw [List.filter_append, List.filter_cons_of_neg (by simpa using h2), List.filter_nil, List.append_nil]
        exact q3
    · rintro H2 ⟨bs, q1, q2, q3, q4⟩
      rw [List.length_map, alen, List.take_length] at q3
      have blen := paired_len q3
      refine ⟨_, rfl, !(bs.map V.ref).isEmpty, .inl ⟨_, SqL.of q2, rfl⟩, ?_⟩
      by_cases hb : big L s0 = []
      · have : bs = [] := by rw [hb] at blen; exact List.length_eq_zero_iff.mp blen
        subst this
        refine iteT ?_
        exact kB (by unfold ans; rw [if_pos hb]) H2 q1
      · have hne : (bs.map V.ref).isEmpty = false := by
          cases bs with
          | nil => exact absurd (List.length_eq_zero_iff.mp blen.symm) hb
          | cons _ _ => rfl
        rw [hne]
        refine iteF ?_
        refine ⟨_, rfl, cp, z, _, rfl, rfl, kd, ?_⟩
        have bd : ∀ x ∈ big L s0, 0 ≤ x.1 ∧ s0 ≤ x.2 ∧ x.1 + x.2 ≤ 1000 := fun x hx => by
          have h1 := List.mem_filter.mp hx
          have h2 := bd0 x h1.1
          have h3 : s0 ≤ x.2 := by simpa using h1.2
          omega
        refine ⟨rfl, _, rfl, _, rfl, _, rfl, D, s0, mk, bs, big L s0, rfl, q2, RunsAt.same q3 q1, bd, hb, s1, s2, k1, k2, ?_⟩
        have ea : ans pk L s0 mk = pk (big L s0) s0 mk := by unfold ans; rw [if_neg hb]
        rw [ea] at kA kB
        cases hc : pk (big L s0) s0 mk with
        | none =>
          refine ⟨_, rfl, rfl, _, rfl, iteT ?_⟩
          exact kB hc H2 q1
        | some c =>
          have cb : 0 ≤ c ∧ c ≤ 10 ^ 6 := by
            obtain ⟨x, hx, x1, x2⟩ := hpk _ _ _ _ bd s1 k1 hc
            have := bd x hx
            omega
          refine ⟨_, rfl, rfl, _, rfl, iteF ?_⟩
          refine ⟨_, rfl, _, rfl, fun r dr nr ndr ne => ⟨r, dr, c, s0, rfl, upd_same, cb.1, by unfold Most; omega, s1, by unfold Most; omega, rfl, ?_⟩⟩
          rw [upd_upd]
          obtain ⟨s3, r3⟩ := run_new (C := C) (f := c) (m := s0) nr ndr ne
          exact kA c hc _ r (q1.trans s3) (q1.free nr) r3
theorem scChoose : FnScope ["self", "many", "run"] ["self", "many"] (defScope s_Space_choose) := ⟨rfl, rfl, rfl, by decide +kernel, rfl, by decide +kernel, by decide +kernel⟩
theorem ok_choose {z : Str} {pk : List Pr → Int → Int → Option Int} {f fH fA fN cc cda : Addr} {fd fdH fdA : FuncData} {doc pm ct : Value}
    (F : Fun K "choose" "Space.choose" s_Space_choose f fd) (T : TR K mg C mc tM) (U : TS K mg S) (N : TN P K mg CN fN cc cda doc pm ct) (bN : Binds K ((nfNR cc cda).fd doc pm ct) ["self", "many"] [])
    (GH : FnOk P w K mg base CX0 7 fH fdH ["self"] (spHoles C S)) (mH : Meth K S "holes" fH) (bH : Binds K fdH ["self"] [])
    (GA : FnOk P w K mg base CX0 5 fA fdA ["policy", "holes", "many", "mark"] (spAns C z pk)) (DA : Def K mg "answer_of" fA fdA ["policy", "holes", "many", "mark"]) :
    FnOk P w K mg base (L2.CX P w) 8 f fd ["self", "many"] (spChoose C S CN z pk) := by
  refine F.okX scChoose (fun vs H Q E h => ?_) (fun cdv A outer s H vs Q E hr h => ?_)
  · obtain ⟨a, d, n, mk, m, ts, rfl, _⟩ := h
    rfl
  · obtain ⟨a, d, n, mk, m, ts, rfl, sp, hd, tk, tl, n1, n2, m1, m2, mz, k1, k2, k⟩ := h
    have hr7 : Room 7 _ := hr
    have hr2 : Room 2 _ := hr.mono (by decide)
    have hr5 : Room 5 _ := hr.mono (by decide)
    refine ⟨_, pss_cons (ps_if (pt_val (pe_callB call_isi (by rfl) T.isi (by decide +kernel) (pa_cons (pe_fld (pv 0) rfl) (pa_cons (pe_bltn (v := .ty "str") (by rfl) U.str (by decide +kernel) rfl) pa_nil))))
        (pss_one (ps_set (i := 2) scChoose.nd rfl (.inl rfl) (pe_call GA hr5 (by rfl) DA.at_ DA.kp DA.bd .nil pass0 (pa_cons (pe_fld (pv 0) rfl) (pa_cons (pe_meth0 (pv 0) U.cl mH GH hr7 bH .nil pass0) (pa_cons (pv 1) (pa_cons (pe_fld (pv 0) rfl) pa_nil)))))))
        (pss_one ps_never))
      (pss_cons (ps_if (pt_cmpR op_isN (pv 2) pe_non (nomark _)) (pss_one (ps_raise rfl (takes_of rfl rfl rfl rfl) (Si.pmk_g N.g N.iC N.tI (ok_norm N) hr2 bN pass0 (by rfl) N.mgN (pa_cons (pv 1) pa_nil)))) pss_nil)
      (pss_one (ps_ret (pv 2)))), ?_⟩
    obtain ⟨dx, fs, ha, p1, p2, p3, p4, p5, p6⟩ := id sp
    refine ⟨_, rfl, a, S, dx, _, _, rfl, ha, U.cl, U.nQ, p2, _, _, .type "str", .type "str", true, rfl, .ty "str", .base (.str z), kit_ty (by decide +kernel), true, rfl, iteT ?_⟩
    refine ⟨_, rfl, a, S, dx, _, _, rfl, ha, U.cl, U.nQ, p2, _, rfl, a, dx, _, rfl, ha, p6 "holes" (by decide +kernel) (by decide +kernel) (by decide +kernel) (by decide +kernel), a, d, n, mk, _, ts, rfl, sp, hd, tk, tl, n1, n2, fun H1 l as L e1 nl el rl hl ll => ?_⟩
    refine ⟨_, rfl, _, rfl, a, S, dx, _, _, rfl, e1 _ _ ha, U.cl, U.nM, p3, l, mk, m, as, L, rfl, el, rl, fun x hx => ?_, ll, m1, m2, mz, k1, k2, fun s0 hs0 s1 s2 => ?_⟩
    · have := hl.ok x hx
      omega
    obtain ⟨kA, kB⟩ := k L s0 hl hs0 s1 s2
    refine ⟨fun c hc H2 r e2 nr rr => ?_, fun hn H2 e2 => ?_⟩
    · exact ⟨_, rfl, rfl, _, rfl, iteF ⟨_, rfl, kA c hc H2 r (e1.trans e2) (e1.free nr) rr⟩⟩
    · exact ⟨_, rfl, rfl, _, rfl, iteT (raise_norm (e1.trans e2) (by omega) (by omega) 1 rfl (kB hn))⟩
def spTakeS (C S CN : Addr) (z : Str) (pk : List Pr → Int → Int → Option Int) : Sp := fun vs H Q E => ∃ (a d : Addr) (n mk m : Int) (ts : List Pr), vs = [.ref a, .int m] ∧ SpAt S H a n (.str z) mk d ∧ H d = some (.dK (kvI ts)) ∧ Sm.Tk n ts ∧ ts.length < 64 ∧ 1 ≤ n ∧ n ≤ 1000 ∧ 1 ≤ m ∧ m ≤ 1000 ∧ (z = "halves" → m ≤ 500) ∧ 0 ≤ mk ∧ mk ≤ 1000 ∧
  ∀ L s, Sm.HL n ts L → szOk z s m → 1 ≤ s → s ≤ 1000 → (∀ c, ans pk L s mk = some c → ∀ H' r, putS a d H H' → H r = none → RunAt C H' r c s → H' d = some (.dK (kvI (ts ++ [(c, s)]))) → SpAt S H' a n (.str z) (if z = "next" then c + s else mk) d → Q (.ref r) H') ∧ (ans pk L s mk = none → Gone CN m H E)
theorem scTakeS : FnScope ["self", "many", "run"] ["self", "many"] (defScope s_Space_take) := ⟨rfl, rfl, rfl, by decide +kernel, rfl, by decide +kernel, by decide +kernel⟩
theorem ok_takeS {z : Str} {pk : List Pr → Int → Int → Option Int} {f fC fO : Addr} {fd fdC fdO : FuncData} (F : Fun K "take" "Space.take" s_Space_take f fd) (U : TS K mg S)
    (GC : FnOk P w K mg base (L2.CX P w) 8 fC fdC ["self", "many"] (spChoose C S CN z pk)) (mC : Meth K S "choose" fC) (bC : Binds K fdC ["self", "many"] []) (GO : FnOk P w K mg base CX0 3 fO fdO ["self", "run"] (spOcc C S)) (mO : Meth K S "occupy" fO) (bO : Binds K fdO ["self", "run"] []) (hpk : Fit pk) :
    FnOk P w K mg base (L2.CX P w) 9 f fd ["self", "many"] (spTakeS C S CN z pk) := by
  refine F.okX scTakeS (fun vs H Q E h => ?_) (fun cdv A outer s H vs Q E hr h => ?_)
  · obtain ⟨a, d, n, mk, m, ts, rfl, _⟩ := h
    rfl
  · obtain ⟨a, d, n, mk, m, ts, rfl, sp, hd, tk, tl, n1, n2, m1, m2, mz, k1, k2, k⟩ := h
    have hr3 : Room 3 _ := hr.mono (by decide)
    refine ⟨_, pss_cons (ps_set (i := 2) scTakeS.nd rfl (.inl rfl) (pe_meth (E := E) (pv 0) U.cl mC GC hr bC .nil (passes_call (takes_of rfl rfl rfl rfl) fun _ _ _ _ z => z) (pa_cons (pv 1) pa_nil)))
      (pss_cons (ps_expr (pe_meth (pv 0) U.cl mO GO hr3 bO .nil pass0 (pa_cons (pv 2) pa_nil))) (pss_one (ps_ret (pv 2)))), ?_⟩
    obtain ⟨dx, fs, ha, p1, p2, p3, p4, p5, p6⟩ := id sp
    refine ⟨_, rfl, a, dx, _, rfl, ha, p6 "choose" (by decide +kernel) (by decide +kernel) (by decide +kernel) (by decide +kernel), _, rfl, a, d, n, mk, m, ts, rfl, sp, hd, tk, tl, n1, n2, m1, m2, mz, k1, k2, fun L s0 hl hs s1 s2 => ⟨fun c hc H1 r e1 nr rr => ?_, (k L s0 hl hs s1 s2).2⟩⟩
    obtain ⟨c0, c1, c2, c3⟩ := fit_free hpk tk hl n2 s1 k1 hc
    have sp1 := sp.same e1
    refine ⟨_, rfl, a, dx, _, rfl, e1 _ _ ha, p6 "occupy" (by decide +kernel) (by decide +kernel) (by decide +kernel) (by decide +kernel), _, rfl, a, r, d, n, mk, c, s0, z, ts, rfl, sp1, e1 _ _ hd, rr, fun x hx q => ?_, Nat.lt_trans tl (by decide), fun H2 e2 h2 sp2 => ?_⟩
    · have := tk.ok x hx
      exact c2 c ⟨Int.le_refl _, by show c < c + s0; omega⟩ x hx ⟨by omega, by omega⟩
    · have ra : r ≠ a := fun q => by rw [q, ha] at nr; cases nr
      have rd : r ≠ d := fun q => by rw [q, hd] at nr; cases nr
      obtain ⟨dr, er⟩ := rr
      exact ⟨_, rfl, (k L s0 hl hs s1 s2).1 c hc H2 r (fun q o qa qd e => e2 q o qa qd (e1 _ _ e)) nr ⟨dr, e2 r _ ra rd er⟩ h2 sp2⟩
end
end Sc
/-! min and max of a list of instances by `lambda x: x.attr`: the library's kmk_min and kmk_max, told in the layer's words. -/
namespace Mk
open PySem PySem.Spec PyProof.Rows L2 LamX
/-- what a call of such a function leaves: a number; all that there was is as it was -/
def Still (s : Shared) (k : Int) (v : Value) (s' : Shared) : Prop := ∃ h' tk t, s' = { s with heap := h', toks := tk } ∧ v = .int k t ∧ ∀ b o, s.heap.get? b = some o → h'.get? b = some o
theorem ns_keeps {h h' : Heap} {L : Addr} {m : Str → Option Value} (n : h.Ns L m) (k : ∀ b o, h.get? b = some o → h'.get? b = some o) : h'.Ns L m := by
  obtain ⟨o, es, ep, ho, r⟩ := n
  exact ⟨o, es, ep, k _ _ ho, r⟩
theorem lam_field {P : Program} {w : World} {K : PySem.W.Frag} {A : Around} {s : Shared} {f c' a dx C : Addr} {q x fld : Str} {params : Arguments} {scope : Scope} {pm ctv : Value} {p1 p2 : Pos} {N : List Str} {mA : Str → Option Value} {k : Int} {t : Tok}
    (hroom : A.depth < recursionLimit) (of : s.heap.get? f = some (PySem.W.kla_obj "<lambda>" q params (.Attribute (.Name x p1) fld p2) scope [] pm c' ctv)) (hcr : s.heap.CodeRec (.ref c') q) (lim : s.heap.NoLimit) (kin : K.In s.heap)
    (S : FnScope N [x] scope) (hx : scope.names.lookup x = some .local) (hd : (x == ("__debug__" : Str)) = false)
    (hb : bindArgs (PySem.W.kla_fn "<lambda>" q params (.Attribute (.Name x p1) fld p2) scope [] pm (.ref c') ctv) ⟨[.ref a], []⟩ = pure ([x].zip [.ref a]))
    (O : ObjM s.heap a dx C mA) (hg : PySem.W.plainGet K C fld = true) (hh : PySem.W.hasDictIn K C = true) (ha : PySem.W.findIn K (.ref C) fld = some none) (hv : mA fld = some (.int k t)) :
    wpAny (model P w) A (call (.ref f) [.ref a]) (Still s k) (fun _ _ => False) s := by
  refine wpAny_call (PySem.W.kla_callFunE hroom of rfl S.co S.gen rfl hcr ?_)
  rw [hb]
  refine wpAny_pure (wpAny_newFunctionEnv_cells S.kind (fun y hy => ?_) fun env he s1 x1 => ?_)
  · rw [List.mem_singleton.mp hy]
    exact .inl hx
  subst he
  have kp := x1.toInCall.keep
  have n1 := x1.toInCall.ns
  obtain ⟨h1, tk1, rfl⟩ := x1.toInCall.same
  refine ⟨lim.keeps kp, PySem.W.kla_codeExpr ?_⟩
  have hk : (newEnv scope s.heap.objs.size mainGlobals (cellsFrom (s.heap.objs.size + 1) scope.names []) (q ++ ".<locals>.") (some f) (.ref c') none builtinsNs).kindOf x = some .local := hx
  have hm : bindL (newEnv scope s.heap.objs.size mainGlobals (cellsFrom (s.heap.objs.size + 1) scope.names []) (q ++ ".<locals>.") (some f) (.ref c') none builtinsNs).kindOf ([x].zip [Value.ref a]) (fun _ => none) x = some (.ref a) := by
    show (if _ then fun y => if y = x then some (Value.ref a) else none else fun _ => none) x = _
    rw [if_pos hk]
    exact if_pos rfl
  refine attr_of rfl (wpAny_Name (wpAny_loadName_local S.kind hk n1 hm ?_) hd)
  obtain ⟨od, J, hl⟩ := O.look
  have J2 : PySem.W.InstAt h1 a (PySem.W.instObj C dx) C (some od) := ⟨kp _ _ J.1, J.2, J.3, kp _ _ J.4⟩
  exact PySem.W.get_value (kin.keeps kp) J2 (PySem.W.plainGet_of hg).1 (PySem.W.findObj_own hh ha rfl (by rw [hl, hv])) rfl ⟨_, _, _, rfl, rfl, kp⟩
section
variable {X : Cx} {pins : List (Addr × Obj)} {σ : L2.St} {H : Hp} {s : Shared}
/-- all objects that are neither the base's nor the frame's -/
def rest (base : Heap) (L : Addr) (h : Heap) : List (Addr × Obj) := (List.range h.objs.size).filterMap fun b => if b = L then none else if (base.get? b).isSome then none else (h.get? b).map fun o => (b, o)
theorem mem_rest {base : Heap} {L b : Addr} {h : Heap} {o : Obj} (e : h.get? b = some o) (hb : b ≠ L) (n : base.get? b = none) : (b, o) ∈ rest base L h := by
  refine List.mem_filterMap.mpr ⟨b, List.mem_range.mpr (Heap.lt_size e), ?_⟩
  rw [if_neg hb, n, e]
  rfl
theorem rest_news {base : Heap} {L : Addr} {h : Heap} : News base L h (rest base L h) := fun p hp => by
  obtain ⟨b, _, e⟩ := List.mem_filterMap.mp hp
  by_cases h1 : b = L
  · rw [if_pos h1] at e
    cases e
  · rw [if_neg h1] at e
    cases h2 : base.get? b with
    | some o =>
      rw [h2] at e
      cases e
    | none =>
      rw [h2] at e
      cases h3 : h.get? b with
      | none =>
        rw [h3] at e
        cases e
      | some o =>
        rw [h3] at e
        cases e
        exact ⟨h3, h1, h2⟩
def Stay (X : Cx) (s : Shared) (h : Heap) : Prop := ∀ b o, b ≠ X.env.locals → s.heap.get? b = some o → h.get? b = some o
theorem stay_of {m : Str → Option Value} {h : Heap} (I : Inv X pins σ H s) (F : Fr X.base X.env.locals h m) {more : List (Addr × Obj)} (N : News X.base X.env.locals h (rest X.base X.env.locals s.heap ++ more)) : Stay X s h := fun b o hb e => by
  cases h2 : X.base.get? b with
  | some o' =>
    have h3 := I.bk _ _ h2
    rw [e] at h3
    cases h3
    exact F.keep _ _ h2
  | none => exact (N (b, o) (List.mem_append_left _ (mem_rest e hb h2))).1
theorem Stay.inv {m : Str → Option Value} {h : Heap} {tk : Nat} (I : Inv X pins σ H s) (n0 : s.heap.Ns X.env.locals m) (n : h.Ns X.env.locals m) (k : Stay X s h) : Inv X pins σ H { s with heap := h, toks := tk } := by
  have nL : ∀ b u, H b = some u → b ≠ X.env.locals := fun b u e z => by
    rw [z, I.free] at e
    cases e
  refine I.step (g' := s.gens) (d' := s.drawn) (ch := []) (fun _ z => nomatch z) (fun b o hL _ _ e _ => k b o hL e) (fun b o hL _ _ e _ => ⟨o.slots, k b o hL e⟩) (fun _ _ _ _ z => z) (fun b o _ e => ?_) (fun _ _ e => e) (fun _ _ _ e => e) (fun b ps e => ⟨#[], by rw [e]; simp⟩) (fun m' hm => ?_) (fun b u e => ?_) I.bare
  · by_cases hL : b = X.env.locals
    · obtain ⟨o', _, _, ho, _⟩ := n
      exact ⟨o', by rw [hL]; exact ho⟩
    · exact ⟨o, k b o hL e⟩
  · obtain ⟨o1, es1, ep1, ho1, hd1, _, r1⟩ := hm
    obtain ⟨o2, es2, ep2, ho2, hd2, _, r2⟩ := n0
    rw [ho1] at ho2
    cases ho2
    rw [hd1] at hd2
    cases hd2
    have e : m' = m := funext fun x => (r1 x).symm.trans (r2 x)
    rw [e]
    exact n
  · refine (I.hok b u e).stay (fun b' u' hb' g => k b' u' ?_ g) (fun _ z => z) (fun _ _ z => z)
    rcases hb' with rfl | z
    · exact nL _ _ e
    · exact nL _ _ z
/-- in each heap that is as this one but for the frame, a call of q with an item is its number -/
def Turns (X : Cx) (s : Shared) (q : Addr) (as : List Addr) (kf : Nat → Int) : Prop := ∀ i a, as[i]? = some a → ∀ h tk, Stay X s h → h.NoLimit → X.K.In h → wpAny (model X.prog X.w) X.A.in1 (call (.ref q) [.ref a]) (Still { s with heap := h, toks := tk } (kf i)) (fun _ _ => False) { s with heap := h, toks := tk }
theorem vals_ref : ∀ {as : List Addr} {us : List Value}, Vals (as.map V.ref) us → us = as.map Value.ref
  | [], _, .nil => rfl
  | a :: as, _, .cons h t => by
    cases h
    rw [vals_ref t]
    rfl
theorem still_end {L : Addr} {h₀ h : Heap} {m : Str → Option Value} {nw : List (Addr × Obj)} {s : Shared} {tk : Nat} {k : Int} {v : Value} {s' : Shared} (F : Fr h₀ L h m) (N : News h₀ L h nw) (e : Still { s with heap := h, toks := tk } k v s') : KskEnd h₀ L m nw k { s with heap := h, toks := tk } v s' := by
  obtain ⟨h', tk', t, rfl, rfl, kp⟩ := e
  exact ⟨h', tk', t, rfl, rfl, ⟨ns_keeps F.ns kp, fun b o z => kp _ _ (F.keep b o z), F.above⟩, fun p hp => ⟨kp _ _ (N p hp).1, (N p hp).2⟩⟩
theorem isl_of (I : Inv X pins σ H s) {l : Addr} {as : List Addr} (hl : H l = some (.lst (as.map V.ref))) {h : Heap} (k : Stay X s h) : h.IsList l (as.map Value.ref).toArray := by
  obtain ⟨its, hv, ⟨o, n, e, c, _, d⟩, _⟩ := I.list (SqL.of hl)
  rw [vals_ref hv] at d
  refine ⟨o, k l o (fun z => ?_) e, c, n, d⟩
  rw [z, I.free] at hl
  cases hl
theorem min_run (I : Inv X pins σ H s) (hc : X.calm = true) {l q : Addr} {as : List Addr} (hl : H l = some (.lst (as.map V.ref))) (hne : as ≠ []) (kf : Nat → Int) (T : Turns X s q as kf) {Q : VK}
    (hQ : ∀ i a, as[i]? = some a → (∀ j, j < as.length → kf i ≤ kf j ∧ (j < i → kf i < kf j)) → Q (.ref a) H) :
    wpAny (model X.prog X.w) X.A (call (.builtin "min") [.ref l] [(Str.ofString "key", .ref q)]) (EP X pins σ Q) X.xe s := by
  obtain ⟨m, F0⟩ := I.fr
  refine kmk_min (vs := as.map Value.ref) kf (I.ok.hd hc) F0 (rest_news (h := s.heap)) (fun h F N => isl_of I hl (stay_of (more := []) I F (by rw [List.append_nil]; exact N))) ?_ (fun i v hv h tk own F N => ?_) (fun i v h' tk' hv hb F N => ?_)
  · rw [List.length_map]
    exact List.length_pos_iff.mpr hne
  · rw [List.getElem?_map] at hv
    obtain ⟨a, ha, rfl⟩ := Option.map_eq_some_iff.mp hv
    exact wpAny_mono (T i a ha h tk (stay_of I F N) (I.ok.mod.nolimit.keeps F.keep) (I.ok.mod.kin.keeps F.keep)) (fun v s' e => still_end F N e) fun _ _ z => z
  · rw [List.getElem?_map] at hv
    obtain ⟨a, ha, rfl⟩ := Option.map_eq_some_iff.mp hv
    rw [List.length_map] at hb
    exact ⟨.ref a, H, Stay.inv I F0.ns F.ns (stay_of (more := []) I F (by rw [List.append_nil]; exact N)), rfl, hQ i a ha hb⟩
theorem max_run (I : Inv X pins σ H s) (hc : X.calm = true) {l q : Addr} {as : List Addr} (hl : H l = some (.lst (as.map V.ref))) (hne : as ≠ []) (kf : Nat → Int) (T : Turns X s q as kf) {Q : VK}
    (hQ : ∀ i a, as[i]? = some a → (∀ j, j < as.length → kf i ≥ kf j ∧ (j < i → kf i > kf j)) → Q (.ref a) H) :
    wpAny (model X.prog X.w) X.A (call (.builtin "max") [.ref l] [(Str.ofString "key", .ref q)]) (EP X pins σ Q) X.xe s := by
  obtain ⟨m, F0⟩ := I.fr
  refine kmk_max (vs := as.map Value.ref) kf (I.ok.hd hc) F0 (rest_news (h := s.heap)) (fun h F N => isl_of I hl (stay_of (more := []) I F (by rw [List.append_nil]; exact N))) ?_ (fun i v hv h tk own F N => ?_) (fun i v h' tk' hv hb F N => ?_)
  · rw [List.length_map]
    exact List.length_pos_iff.mpr hne
  · rw [List.getElem?_map] at hv
    obtain ⟨a, ha, rfl⟩ := Option.map_eq_some_iff.mp hv
    exact wpAny_mono (T i a ha h tk (stay_of I F N) (I.ok.mod.nolimit.keeps F.keep) (I.ok.mod.kin.keeps F.keep)) (fun v s' e => still_end F N e) fun _ _ z => z
  · rw [List.getElem?_map] at hv
    obtain ⟨a, ha, rfl⟩ := Option.map_eq_some_iff.mp hv
    rw [List.length_map] at hb
    exact ⟨.ref a, H, Stay.inv I F0.ns F.ns (stay_of (more := []) I F (by rw [List.append_nil]; exact N)), rfl, hQ i a ha hb⟩
end
end Mk
/-! min and max by `lambda x: x.attr`, as an expression. -/
namespace Mk
open PySem PySem.Spec PyProof.Rows L2 LamX
def best (mx : Bool) (kf : Nat → Int) (n i : Nat) : Prop := ∀ j, j < n → (if mx = true then kf i ≥ kf j ∧ (j < i → kf i > kf j) else kf i ≤ kf j ∧ (j < i → kf i < kf j))
def tMinLam (mx : Bool) (T : List (Addr × Str)) (K : PySem.W.Frag) (fld : Str) (ta : TA) : TE := fun σ H Q => ta σ H fun xs H1 => ∃ (l : Addr) (as : List Addr) (kf : Nat → Int), xs = [.ref l] ∧ H1 l = some (.lst (as.map V.ref)) ∧ as ≠ [] ∧ Tabs T H1 ∧
  (∀ i a, as[i]? = some a → ∃ C dx fs, H1 a = some (.ins C dx fs) ∧ Cls K C ∧ NoAttr K C fld ∧ fs.lookup fld = some (.int (kf i))) ∧ ∀ H2, ExtN H1 H2 → Tabs T H2 → ∀ i a, as[i]? = some a → best mx kf as.length i → Q (.ref a) H2
section
variable {X : Cx}
theorem not_frame {pins : List (Addr × Obj)} {σ : L2.St} {H : Hp} {s : Shared} {f : Addr} {o : Obj} {fd : FuncData} (I : Inv X pins σ H s) (ho : s.heap.get? f = some o) (hd : o.data = .func fd) (hf : f ∉ frs X.stack) : f ≠ X.env.locals ∧ f ∉ X.fs := by
  refine ⟨fun z => ?_, fun z => ?_⟩
  · obtain ⟨m, ⟨o', es, ep, h1, h2, _⟩, _⟩ := I.loc
    rw [← z, ho] at h1
    cases h1
    rw [hd] at h2
    cases h2
  · rcases I.ok.stk with e | ⟨e, _⟩
    · exact hf (by rw [e]; exact z)
    · refine hf ?_
      rw [e]
      unfold frs at z ⊢
      rw [List.filterMap_cons]
      cases X.env.frame with
      | none => exact z
      | some b => exact List.mem_cons_of_mem _ z
theorem pe_minLam {mx : Bool} {nm : String} {id : String} {T : List (Addr × Str)} {c P : Addr} {x fld : Str} {p1 p2 : Pos} {params : Arguments} {e : Expr} {scope : Scope} {ta : TA} {p pos lpos kpos : Pos} {N : List Str} (hm0 : (mx = true ∧ id = "max") ∨ (mx = false ∧ id = "min"))
    (hcalm : X.calm = true) (hg : Gl X nm) (hm : X.mg nm = none) (hv : bootBuiltins nm = some (.builtin id)) (he : PA X [e] ta)
    (TB : TabB X.base X.mg c P) (hcode : X.env.code = .ref c) (hmT : (P, X.env.qual ++ "<lambda>") ∈ T) (hu : ∀ p ∈ T, p.1 = P → p.2 = X.env.qual ++ "<lambda>") (hr : Room 2 X.A) (S : FnScope N [x] scope) (hx : scope.names.lookup x = some .local) (hxd : (x == ("__debug__" : Str)) = false) (hdef : defaultsOf params X.env = ([], [])) (hclo : cloFrom X.env.cells scope.names [] = [])
    (hbind : ∀ (q : Str) (pm cv ctv u : Value), bindArgs (PySem.W.kla_fn "<lambda>" q params (.Attribute (.Name x p1) fld p2) scope [] pm cv ctv) ⟨[u], []⟩ = pure ([x].zip [u]))
    (hn : (nm : Str) ≠ "__name__" := by decide) (hdb : ((nm : Str) == ("__debug__" : Str)) = false := by decide)
    (hst : backTo pos (starEach [e] X.env) = (false, eval e X.env) :: backTo pos (starEach [] X.env) := by rfl) (hpl : (backTo pos (starEach [e] X.env)).any (·.1) = false := by rfl)
    (hall : (backToKw pos (keywordEach [⟨some "key", .Lambda params (.Attribute (.Name x p1) fld p2) scope lpos, kpos⟩] X.env)).all (·.1.isSome) = true := by rfl) (hnone : (backToKw pos (keywordEach [⟨some "key", .Lambda params (.Attribute (.Name x p1) fld p2) scope lpos, kpos⟩] X.env)).any (·.1.isNone) = false := by rfl)
    (hks : (backToKw pos (keywordEach [⟨some "key", .Lambda params (.Attribute (.Name x p1) fld p2) scope lpos, kpos⟩] X.env)).filterMap (·.1) = [Str.ofString "key"] := by rfl) :
    PE X (.Call (.Name nm p) [e] [⟨some "key", .Lambda params (.Attribute (.Name x p1) fld p2) scope lpos, kpos⟩] pos) (tMinLam mx T X.K fld ta) := by
  refine ⟨fun pins s σ H Q I h => ?_⟩
  refine wpAny_Call_Name_kw (ld_blt I hg hm hv ?_ hn hdb)
  refine PyProof.Rows.callWith_kw (thn (he.run pos pins s σ H _ I h) fun us s1 ⟨vs, H1, I1, r1, l, as, kf, ev, hl, hne, hT, q0, q1⟩ => ?_) hst hpl hall hnone
  subst ev
  cases r1 with
  | cons ra rt =>
  cases rt
  cases ra
  have hfree : ∀ y ∈ scope.names, y.2 = .free → ∃ c, X.env.cells.lookup y.1 = some c := fun y hy z => absurd z (S.nofree y hy)
  show wpAny _ _ (evalAll ((do let v ← eval (.Lambda params (.Attribute (.Name x p1) fld p2) scope lpos) X.env; standAt pos; pure v) :: [])) _ _ s1
  refine wpAny_evalAll_cons (wpAny_bind (lam_make2 I1 TB hcode hmT hu hT hdef hfree fun f c' pm ctv H2 s2 I2 eN T2 hf hfn hfr hco => wpAny_bind (wpAny_standAt (wpAny_pure (wpAny_evalAll_nil ?_)))))
  rw [hks]
  rw [hclo] at hf
  obtain ⟨nf1, nf2⟩ := not_frame I2 hf rfl hfr
  have q2 := q1 H2 eN T2
  have hl2 : H2 l = some (.lst (as.map V.ref)) := eN l _ hl (fun ps z => by cases z)
  have nL : ∀ b u, H2 b = some u → b ≠ X.env.locals := fun b u e z => by
    rw [z, I2.free] at e
    cases e
  have TT : Turns X s2 f as kf := fun i a ha h tk st lim kin => by
    obtain ⟨C, dx, fs, e1, hc1, hn1, hf1⟩ := q0 i a ha
    have e2 := eN a _ e1 (fun ps z => by cases z)
    obtain ⟨mA, O, r, _, _, hd⟩ := ins_get I2.hok e2
    have O2 : ObjM h a dx C mA := by
      obtain ⟨o, es, ep, ho, z⟩ := O.ns
      exact ⟨st a _ (nL _ _ e2) O.obj, ⟨o, es, ep, st dx _ (nL _ _ hd) ho, z⟩, O.ne⟩
    obtain ⟨⟨oc, os, tq, hoc, hdc, hvc⟩, _, _⟩ := I2.hok c' _ hco
    obtain ⟨u, hu1, ru⟩ := RelO.some_of (v := .int (kf i)) (o := mA fld) (by rw [← hf1]; exact r fld)
    obtain ⟨t, rfl⟩ := (show ∃ t, u = Value.int (kf i) t from ru)
    exact lam_field (A := X.A.in1) hr.in1.depth (st f _ nf1 hf) ⟨c', oc, os, tq, rfl, st c' _ (nL _ _ hco) hoc, hdc, hvc⟩ lim kin S hx hxd (hbind _ _ _ _ _) O2 (hc1.get fld) hc1.hd hn1 hu1
  rcases hm0 with ⟨rfl, rfl⟩ | ⟨rfl, rfl⟩
  · exact max_run I2 hcalm hl2 hne kf TT fun i a ha hb => q2 i a ha fun j hj => by rw [if_pos rfl]; exact hb j hj
  · exact min_run I2 hcalm hl2 hne kf TT fun i a ha hb => q2 i a ha fun j hj => by rw [if_neg Bool.false_ne_true]; exact hb j hj
end
end Mk
namespace Sc
open PySem L2 LamX
/-! ### first, best, worst: choices that may make a lambda -/
abbrev Tl := List (Addr × Str)
def pkFirst (L : List Pr) (_ _ : Int) : Option Int := L.head?.map (·.1)
def isB (mx : Bool) (L : List Pr) (x : Pr) : Bool := L.all fun y => if mx = true then decide (x.2 ≥ y.2) else decide (x.2 ≤ y.2)
def pkSz (mx : Bool) (L : List Pr) (_ _ : Int) : Option Int := (L.find? (isB mx L)).map (·.1)
/-- a choice, told for heaps that agree but for tables -/
def spChT (T : Tl) (C : Addr) (pk : List Pr → Int → Int → Option Int) : Sp := fun vs H Q _ => ∃ (l : Addr) (s mk : Int) (as : List Addr) (L : List Pr), vs = [.ref l, .int s, .int mk] ∧ H l = some (.lst (as.map V.ref)) ∧ RunsAt C H as L ∧ (∀ x ∈ L, 0 ≤ x.1 ∧ s ≤ x.2 ∧ x.1 + x.2 ≤ 1000) ∧ L ≠ [] ∧ 1 ≤ s ∧ s ≤ 1000 ∧ 0 ≤ mk ∧ mk ≤ 1000 ∧ Tabs T H ∧
  ∀ H', ExtN H H' → Tabs T H' → Q (optV (pk L s mk)) H'
theorem best_at {mx : Bool} {L : List Pr} {i : Nat} {x : Pr} (hx : L[i]? = some x) (h : Mk.best mx (fun j => (L.getD j (0, 0)).2) L.length i) : L.find? (isB mx L) = some x := by
  have hi := (List.getElem?_eq_some_iff.mp hx).1
  have hxe := (List.getElem?_eq_some_iff.mp hx).2
  have gd : ∀ j (hj : j < L.length), L.getD j (0, 0) = L[j] := fun j hj => by rw [List.getD_eq_getElem?_getD, List.getElem?_eq_getElem hj]; rfl
  refine List.find?_eq_some_iff_getElem.mpr ⟨?_, i, hi, hxe, fun j hj => ?_⟩
  · unfold isB
    rw [List.all_eq_true]
    intro y hy
    obtain ⟨j, hj, rfl⟩ := List.getElem_of_mem hy
    have hb := h j hj
    simp only [gd i hi, gd j hj, hxe] at hb
    cases mx
    · rw [if_neg Bool.false_ne_true] at hb ⊢
      exact decide_eq_true hb.1
    · rw [if_pos rfl] at hb ⊢
      exact decide_eq_true hb.1
  · have hb := h j (Nat.lt_trans hj hi)
    simp only [gd i hi, gd j (Nat.lt_trans hj hi), hxe] at hb
    have : isB mx L L[j] = false := by
      unfold isB
      rw [List.all_eq_false]
      refine ⟨x, List.mem_of_getElem? hx, ?_⟩
      cases mx
      · rw [if_neg Bool.false_ne_true] at hb ⊢
        have := hb.2 hj
        simp
        omega
      · rw [if_pos rfl] at hb ⊢
        have := hb.2 hj
        simp
        omega
    simp [this]
theorem fit_first : Fit pkFirst := fun L s mk c bd s1 _ h => by
  unfold pkFirst at h
  cases L with
  | nil => cases h
  | cons x r =>
    cases h
    have := bd x (List.mem_cons_self ..)
    refine ⟨x, List.mem_cons_self .., Int.le_refl _, ?_⟩
    show x.1 + s ≤ x.1 + x.2
    omega
theorem fit_sz (mx : Bool) : Fit (pkSz mx) := fun L s mk c bd s1 _ h => by
  unfold pkSz at h
  cases e : L.find? (isB mx L) with
  | none => rw [e] at h; cases h
  | some x =>
    rw [e] at h
    cases h
    have hx := List.mem_of_find?_eq_some e
    have := bd x hx
    refine ⟨x, hx, Int.le_refl _, ?_⟩
    show x.1 + s ≤ x.1 + x.2
    omega
section
variable {P : Program} {w : World} {K : PySem.W.Frag} {mg : Str → Option Value} {base : Heap} {C S CN : Addr} {mc : Value} {tM : Tok} {Ts : Tl}
theorem scFirst : FnScope ["holes", "many", "mark"] ["holes", "many", "mark"] (defScope s__first) := ⟨rfl, rfl, rfl, by decide +kernel, rfl, by decide +kernel, by decide +kernel⟩
theorem ok_cfirst {f : Addr} {fd : FuncData} (F : Fun K "_first" "_first" s__first f fd) (T : TR K mg C mc tM) : FnOk P w K mg base CX0 3 f fd ["holes", "many", "mark"] (spChT Ts C pkFirst) := by
  refine F.ok scFirst (fun vs H Q E h => ?_) (fun cdv A outer s H vs Q E hr h => ?_)
  · obtain ⟨l, s, mk, as, L, rfl, _⟩ := h
    rfl
  · obtain ⟨l, s, mk, as, L, rfl, hl, rs, bd, ne, s1, s2, m0, m1, hT, k⟩ := h
    refine ⟨_, pss_one (ps_ret (pe_fld (pe_ix ix_list (pv 0) pe_int (fun _ _ => rfl)) rfl)), ?_⟩
    cases L with
    | nil => exact absurd rfl ne
    | cons x r =>
      cases rs with
      | cons ra rr =>
        rename_i b as'
        obtain ⟨db, eb⟩ := ra
        exact ⟨_, rfl, l, _, _, .ref b, rfl, rfl, SqL.of hl, at_of (j := 0) rfl rfl, b, C, db, _, _, rfl, eb, T.cl, T.nF, rf_f _ _, k H (ExtN.refl H) hT⟩
abbrev qB : Str := "_best.<locals>.<lambda>"
abbrev qW : Str := "_worst.<locals>.<lambda>"
theorem scBest : FnScope ["holes", "many", "mark"] ["holes", "many", "mark"] (defScope s__best) := ⟨rfl, rfl, rfl, by decide +kernel, rfl, by decide +kernel, by decide +kernel⟩
theorem scWorst : FnScope ["holes", "many", "mark"] ["holes", "many", "mark"] (defScope s__worst) := ⟨rfl, rfl, rfl, by decide +kernel, rfl, by decide +kernel, by decide +kernel⟩
theorem ok_cbest {f c Pt : Addr} {oc kV doc pm ct : Value} {od an : Option Addr} {sl : Array (Option Value)} (lk : K.lookup f = some ⟨oc, od, .func (PySem.W.fnOf "_best" "_best" (defArgs s__best) (defBody s__best) (defScope s__best) .none kV doc pm an (.ref c) ct), sl⟩) (hcd : PySem.W.codeIn K (.ref c) "_best" = true)
    (T : TR K mg C mc tM) (hmin : mg "min" = none) (TB : TabB base mg c Pt) (hmT : (Pt, qB) ∈ Ts) (hu : ∀ p ∈ Ts, p.1 = Pt → p.2 = qB) : FnOk P w K mg base CX0 3 f (PySem.W.fnOf "_best" "_best" (defArgs s__best) (defBody s__best) (defScope s__best) .none kV doc pm an (.ref c) ct) ["holes", "many", "mark"] (spChT Ts C (pkSz false)) := by
  refine fn_of lk hcd scBest (fun vs H Q E h => ?_) (fun A outer s H vs Q E hr h => ?_)
  · obtain ⟨l, s, mk, as, L, rfl, _⟩ := h
    rfl
  · obtain ⟨l, sz, mk, as, L, rfl, hl, rs, bd, ne, s1, s2, m0, m1, hT, k⟩ := h
    have alen := paired_len rs
    suffices hh : ∃ t, PSs (cxOf CX0 P w K mg base ["holes", "many", "mark"] "_best" (defScope s__best) f (.ref c) A outer s H E).nox (defBody s__best) t ∧ t { nx := fun _ H' => Q .non H', rt := Q } (L2.start ["holes", "many", "mark"] [.ref l, .int sz, .int mk]) H by
      obtain ⟨t, h1, h2⟩ := hh
      exact ⟨t, h1.nox, h2⟩
    refine ⟨_, pss_one (ps_ret (pe_fld (Mk.pe_minLam (mx := false) (nm := "min") (id := "min") (c := c) (P := Pt) (T := Ts) (N := ["hole"]) (x := "hole") (.inr ⟨rfl, rfl⟩) rfl (by rfl) hmin (by decide +kernel) (pa_cons (pv 0) pa_nil) TB rfl hmT hu hr ⟨rfl, rfl, rfl, by decide +kernel, rfl, by decide +kernel, by decide +kernel⟩ (by decide +kernel) (by decide +kernel) rfl rfl (fun _ _ _ _ _ => rfl)) rfl)), ?_⟩
    refine ⟨_, rfl, l, as, fun j => (L.getD j (0, 0)).2, rfl, hl, fun z => ?_, hT, fun i a ha => ?_, fun H2 e2 T2 i a ha hb => ?_⟩
    · rw [z] at alen
      exact ne (List.length_eq_zero_iff.mp alen.symm)
    all_goals
      have il : i < L.length := by rw [← alen]; exact (List.getElem?_eq_some_iff.mp ha).1
      have hL : L[i]? = some L[i] := List.getElem?_eq_getElem il
      obtain ⟨da, ea⟩ := paired_ith rs ha hL
    · refine ⟨C, da, _, ea, T.cl, T.nM, ?_⟩
      dsimp only
      rw [List.getD_eq_getElem?_getD, hL]
      exact rf_m _ _
    · have ea2 := e2 _ _ ea (fun ps z => by cases z)
      rw [alen] at hb
      have hf := best_at hL hb
      have k2 := k H2 e2 T2
      unfold pkSz at k2
      rw [hf] at k2
      exact ⟨a, C, da, _, _, rfl, ea2, T.cl, T.nF, rf_f _ _, k2⟩
theorem ok_cworst {f c Pt : Addr} {oc kV doc pm ct : Value} {od an : Option Addr} {sl : Array (Option Value)} (lk : K.lookup f = some ⟨oc, od, .func (PySem.W.fnOf "_worst" "_worst" (defArgs s__worst) (defBody s__worst) (defScope s__worst) .none kV doc pm an (.ref c) ct), sl⟩) (hcd : PySem.W.codeIn K (.ref c) "_worst" = true)
    (T : TR K mg C mc tM) (hmin : mg "max" = none) (TB : TabB base mg c Pt) (hmT : (Pt, qW) ∈ Ts) (hu : ∀ p ∈ Ts, p.1 = Pt → p.2 = qW) : FnOk P w K mg base CX0 3 f (PySem.W.fnOf "_worst" "_worst" (defArgs s__worst) (defBody s__worst) (defScope s__worst) .none kV doc pm an (.ref c) ct) ["holes", "many", "mark"] (spChT Ts C (pkSz true)) := by
  refine fn_of lk hcd scWorst (fun vs H Q E h => ?_) (fun A outer s H vs Q E hr h => ?_)
  · obtain ⟨l, s, mk, as, L, rfl, _⟩ := h
    rfl
  · obtain ⟨l, sz, mk, as, L, rfl, hl, rs, bd, ne, s1, s2, m0, m1, hT, k⟩ := h
    have alen := paired_len rs
    suffices hh : ∃ t, PSs (cxOf CX0 P w K mg base ["holes", "many", "mark"] "_worst" (defScope s__worst) f (.ref c) A outer s H E).nox (defBody s__worst) t ∧ t { nx := fun _ H' => Q .non H', rt := Q } (L2.start ["holes", "many", "mark"] [.ref l, .int sz, .int mk]) H by
      obtain ⟨t, h1, h2⟩ := hh
      exact ⟨t, h1.nox, h2⟩
    refine ⟨_, pss_one (ps_ret (pe_fld (Mk.pe_minLam (mx := true) (nm := "max") (id := "max") (c := c) (P := Pt) (T := Ts) (N := ["hole"]) (x := "hole") (.inl ⟨rfl, rfl⟩) rfl (by rfl) hmin (by decide +kernel) (pa_cons (pv 0) pa_nil) TB rfl hmT hu hr ⟨rfl, rfl, rfl, by decide +kernel, rfl, by decide +kernel, by decide +kernel⟩ (by decide +kernel) (by decide +kernel) rfl rfl (fun _ _ _ _ _ => rfl)) rfl)), ?_⟩
    refine ⟨_, rfl, l, as, fun j => (L.getD j (0, 0)).2, rfl, hl, fun z => ?_, hT, fun i a ha => ?_, fun H2 e2 T2 i a ha hb => ?_⟩
    · rw [z] at alen
      exact ne (List.length_eq_zero_iff.mp alen.symm)
    all_goals
      have il : i < L.length := by rw [← alen]; exact (List.getElem?_eq_some_iff.mp ha).1
      have hL : L[i]? = some L[i] := List.getElem?_eq_getElem il
      obtain ⟨da, ea⟩ := paired_ith rs ha hL
    · refine ⟨C, da, _, ea, T.cl, T.nM, ?_⟩
      dsimp only
      rw [List.getD_eq_getElem?_getD, hL]
      exact rf_m _ _
    · have ea2 := e2 _ _ ea (fun ps z => by cases z)
      rw [alen] at hb
      have hf := best_at hL hb
      have k2 := k H2 e2 T2
      unfold pkSz at k2
      rw [hf] at k2
      exact ⟨a, C, da, _, _, rfl, ea2, T.cl, T.nF, rf_f _ _, k2⟩
end
end Sc
namespace Sc
open PySem L2 LamX
/-! ### choose and take, told for heaps that agree but for tables -/
def NewT (H : Hp) (r : Addr) : Prop := ∀ o, H r = some o → ∃ ps, o = .tbl ps
theorem newT_of {H H' : Hp} {r : Addr} (e : ExtN H H') (n : H' r = none) : NewT H r := fun o h => Classical.byContradiction fun z => by
  have := e r o h (fun ps q => z ⟨ps, q⟩)
  rw [n] at this
  cases this
theorem NewT.ne {H : Hp} {r q : Addr} {o : HO} (n : NewT H r) (h : H q = some o) (ht : ∀ ps, o ≠ .tbl ps) : q ≠ r := fun z => by
  rw [z] at h
  obtain ⟨ps, e⟩ := n o h
  exact ht ps e
def putT (a d : Addr) (H H' : Hp) : Prop := ∀ q o, q ≠ a → q ≠ d → (∀ ps, o ≠ .tbl ps) → H q = some o → H' q = some o
def GoneT (Ts : Tl) (CN : Addr) (m : Int) (H : Hp) (E : XK) : Prop := ∀ H' dd, ExtN H H' → Tabs Ts H' → NewT H dd → H' dd = some (.xd [(("many" : Str), .int m)]) → E (.ref CN) (some dd) H'
theorem SpAt.extN {S a d : Addr} {H H' : Hp} {n mk : Int} {pol : V} (h : SpAt S H a n pol mk d) (k : ExtN H H') : SpAt S H' a n pol mk d := by
  obtain ⟨dx, fs, e, r⟩ := h
  exact ⟨dx, fs, k _ _ e (fun ps z => by cases z), r⟩
theorem tabs_put2 {Ts : Tl} {a d : Addr} {H H' : Hp} {oa od : HO} (t : Tabs Ts H) (k : ∀ q o, q ≠ a → q ≠ d → H q = some o → H' q = some o) (ha : H a = some oa) (hd : H d = some od) (na : (∀ ps, oa ≠ .tbl ps) ∧ ∀ c q, oa ≠ CodeO c q) (nd : (∀ ps, od ≠ .tbl ps) ∧ ∀ c q, od ≠ CodeO c q) : Tabs Ts H' := fun p hp => by
  obtain ⟨ps, h1, h2, h3⟩ := t p hp
  have ne : ∀ {q : Addr} {o : HO}, H q = some o → (o ≠ oa) → (o ≠ od) → H' q = some o := fun {q o} h z1 z2 => k q o (fun e => by rw [e, ha] at h; exact z1 (Option.some.inj h).symm) (fun e => by rw [e, hd] at h; exact z2 (Option.some.inj h).symm) h
  refine ⟨ps, ne h1 (fun z => na.1 ps z.symm) (fun z => nd.1 ps z.symm), h2, fun pos cv hc => ?_⟩
  obtain ⟨c0, e1, e2⟩ := h3 pos cv hc
  exact ⟨c0, e1, ne e2 (fun z => na.2 _ _ z.symm) (fun z => nd.2 _ _ z.symm)⟩
theorem ins_nt {C : Addr} {dx : Addr} {fs : List (Str × V)} : (∀ ps, HO.ins C dx fs ≠ .tbl ps) ∧ ∀ c q, HO.ins C dx fs ≠ CodeO c q := ⟨fun ps z => (by cases z), fun c q z => (by unfold CodeO at z; cases z)⟩
theorem dk_nt {es : List (Key × V)} : (∀ ps, HO.dK es ≠ .tbl ps) ∧ ∀ c q, HO.dK es ≠ CodeO c q := ⟨fun ps z => (by cases z), fun c q z => (by unfold CodeO at z; cases z)⟩
theorem lst_nt {xs : List V} : (∀ ps, HO.lst xs ≠ .tbl ps) ∧ ∀ c q, HO.lst xs ≠ CodeO c q := ⟨fun ps z => (by cases z), fun c q z => (by unfold CodeO at z; cases z)⟩
def spChooseT (Ts : Tl) (C S CN : Addr) (z : Str) (pk : List Pr → Int → Int → Option Int) : Sp := fun vs H Q E => ∃ (a d : Addr) (n mk m : Int) (ts : List Pr), vs = [.ref a, .int m] ∧ SpAt S H a n (.str z) mk d ∧ H d = some (.dK (kvI ts)) ∧ Sm.Tk n ts ∧ ts.length < 64 ∧ 1 ≤ n ∧ n ≤ 1000 ∧ 1 ≤ m ∧ m ≤ 1000 ∧ (z = "halves" → m ≤ 500) ∧ 0 ≤ mk ∧ mk ≤ 1000 ∧ Tabs Ts H ∧
  ∀ L s, Sm.HL n ts L → szOk z s m → 1 ≤ s → s ≤ 1000 → (∀ c, ans pk L s mk = some c → ∀ H' r, ExtN H H' → Tabs Ts H' → NewT H r → RunAt C H' r c s → Q (.ref r) H') ∧ (ans pk L s mk = none → GoneT Ts CN m H E)
theorem newT_back {H H' : Hp} {r : Addr} (e : Same H H') (n : NewT H' r) : NewT H r := fun o h => n o (e _ _ h)
def spAnsT (Ts : Tl) (C : Addr) (z : Str) (pk : List Pr → Int → Int → Option Int) : Sp := fun vs H Q _ => ∃ (l : Addr) (mk m : Int) (as : List Addr) (L : List Pr), vs = [.str z, .ref l, .int m, .int mk] ∧ H l = some (.lst (as.map V.ref)) ∧ RunsAt C H as L ∧ (∀ x ∈ L, 0 ≤ x.1 ∧ x.1 + x.2 ≤ 1000) ∧ L.length ≤ 64 ∧ 1 ≤ m ∧ m ≤ 1000 ∧ (z = "halves" → m ≤ 500) ∧ 0 ≤ mk ∧ mk ≤ 1000 ∧ Tabs Ts H ∧
  ∀ s, szOk z s m → 1 ≤ s → s ≤ 1000 → (∀ c, ans pk L s mk = some c → ∀ H' r, ExtN H H' → Tabs Ts H' → NewT H r → RunAt C H' r c s → Q (.ref r) H') ∧ (ans pk L s mk = none → ∀ H', ExtN H H' → Tabs Ts H' → Q .non H')
section
variable {P : Program} {w : World} {K : PySem.W.Frag} {mg : Str → Option Value} {base : Heap} {C S CN : Addr} {mc : Value} {tM : Tok} {Ts : Tl}
theorem raise_normT {σ : L2.St} {H H0 : Hp} {E : XK} {m : Int} (s0 : ExtN H0 H) (hT : Tabs Ts H) (m0 : 0 ≤ m) (m1 : m < 10 ^ 13) (i : Nat) (hi : σ[i]? = some (some (.int m))) (g : GoneT Ts CN m H0 E) :
    tMkO CN (spNR CN) [] (tCons (tVar i) tNil) σ H (fun cls d H' => E cls d H') := by
  refine ⟨_, hi, (by show 1 ≤ 1000; decide), fun a na => ⟨a, m, rfl, upd_same, m0, m1, fun dx ndx ne => ?_⟩⟩
  have hd : H dx = none := by rw [upd_ne ne] at ndx; exact ndx
  refine ⟨rfl, dx, _, upd_same, by rw [upd_ne ne, upd_same], hd, ?_⟩
  have k := norm_heap (CN := CN) (m := m) na hd ne
  exact g _ dx (s0.trans (ExtN.of k)) (hT.ext k) (newT_of s0 hd) upd_same
theorem ok_ansT {z : Str} {pk : List Pr → Int → Int → Option Int} {f fI fZ fC cp : Addr} {fd fdI fdZ fdC : FuncData} {psC : List Str}
    (F : Fun K "answer_of" "answer_of" s_answer_of f fd) (T : TR K mg C mc tM)
    (MI : Mk K C fI) (GI : FnOk P w K mg base CX0 3 fI fdI ["self", "first", "many"] (spInit C)) (bI : Binds K fdI ["self", "first", "many"] [])
    (GZ : FnOk P w K mg base CX0 2 fZ fdZ ["policy", "many"] spSize) (DZ : Def K mg "size_of" fZ fdZ ["policy", "many"])
    (GC : FnOk P w K mg base CX0 3 fC fdC psC (spChT Ts C pk)) (kC : PySem.W.keepIn K (.ref fC) = true) (bC : Binds K fdC psC []) (hcp : mg "_CHOICES" = some (.ref cp)) (kd : KDct K w cp z (.ref fC)) (hpk : Fit pk) :
    FnOk P w K mg base CX0 5 f fd ["policy", "holes", "many", "mark"] (spAnsT Ts C z pk) := by
  refine F.ok scAns (fun vs H Q E h => ?_) (fun cdv A outer s H vs Q E hr h => ?_)
  · obtain ⟨l, mk, m, as, L, rfl, _⟩ := h
    rfl
  · obtain ⟨l, mk, m, as, L, rfl, el, rl, bd0, ll, m1, m2, mz, k1, k2, hT, k⟩ := h
    have hr2 : Room 2 _ := hr.mono (by decide)
    have hr3 : Room 3 _ := hr.mono (by decide)
    have hr4 : Room 4 _ := hr.mono (by decide)
    refine ⟨_, pss_cons (ps_set (i := 4) scAns.nd rfl (.inr rfl) (pe_call GZ hr2 (by rfl) DZ.at_ DZ.kp DZ.bd .nil pass0 (pa_cons (pv 0) (pa_cons (pv 2) pa_nil))))
      (pss_cons (ps_setLc (i := 5) (own := [("hole", 8)]) (g := gName 8) rfl scAns.nd rfl rfl (sw_true rfl rfl rfl (by decide +kernel)) (pi_list (pv 1)) (blkOk_by (N := NAn) (sc := defScope s_answer_of) (by decide +kernel))
          (fun _ _ _ _ _ => pg_name (i := 8) scAns.nd rfl (Or.inl rfl)) (fun _ _ _ _ _ => pts_one (pt_cmpR op_ge (Mw.pe_fldK (K := K) (pv 8) rfl) (pv 4) (nomark _))) (fun _ _ _ _ _ => pv 8))
      (pss_cons (ps_if (pt_not (pt_truth (pv 5) (by intro _; rfl))) (pss_one (ps_ret pe_non)) pss_nil)
      (pss_cons (ps_set (i := 6) scAns.nd rfl (.inl rfl) (pe_ix ix_kdict (pe_glob (v := .ref cp) rfl hcp rfl) (pv 0) (fun _ _ => rfl)))
      (pss_cons (ps_set (i := 7) scAns.nd rfl (.inl rfl) (pe_callL (i := 6) GC hr3 rfl (Or.inl rfl) kC bC .nil pass0 (pa_cons (pv 5) (pa_cons (pv 4) (pa_cons (pv 3) pa_nil)))))
      (pss_cons (ps_if (pt_cmpR op_isN (pv 7) pe_non (nomark _)) (pss_one (ps_ret pe_non)) pss_nil)
      (pss_one (ps_ret (pe_make MI GI hr4 (by rfl) T.mgC bI .nil pass0 (pa_cons (pv 7) (pa_cons (pv 4) pa_nil)))))))))), ?_⟩
    have alen := paired_len rl
    refine ⟨_, rfl, _, rfl, z, m, rfl, m1, m2, mz, fun s0 hs0 s1 s2 => ?_⟩
    obtain ⟨kA, kB⟩ := k s0 hs0 s1 s2
    refine ⟨_, rfl, l, rfl, ⟨_, SqL.of el⟩, fun D nD => lc_list (K := K) (a := l) (xs := as.map V.ref) (fun i H' => ∃ bs : List Addr, Same H H' ∧ H' D = some (.lst (bs.map V.ref)) ∧ RunsAt C H bs (big (L.take i) s0) ∧ bs.length ≤ i) ⟨[], put_same nD, upd_same, .nil, Nat.le_refl _⟩ (fun i H' hi ⟨bs, q1, _⟩ => SqL.of (q1 _ _ el)) ?_ ?_⟩
    · rintro i x H' hx ⟨bs, q1, q2, q3, q4⟩
      rw [List.getElem?_map] at hx
      obtain ⟨b, hb, rfl⟩ := Option.map_eq_some_iff.mp hx
      have il : i < L.length := by rw [← alen]; exact (List.getElem?_eq_some_iff.mp hb).1
      have hL : L[i]? = some L[i] := List.getElem?_eq_getElem il
      have rb := paired_ith rl hb hL
      obtain ⟨db, eb⟩ := rb
      have es : L.take (i + 1) = L.take i ++ [L[i]] := by rw [List.take_succ, hL]; rfl
      refine ⟨rfl, _, rfl, b, C, db, _, _, rfl, q1 _ _ eb, T.cl, T.nM, rf_m _ _, _, rfl, _, _, rfl, rfl, _, rfl, ite2 (fun h1 => ?_) fun h1 => ?_⟩
      · have h2 : L[i].2 ≥ s0 := of_decide_eq_true h1
        refine ⟨_, rfl, _, q2, Nat.lt_of_le_of_lt (by rw [List.length_map]; exact q4) (Nat.lt_of_lt_of_le (show i < 64 by omega) (by decide)), bs ++ [b], fun c o e => ?_, by rw [upd_same, List.map_append]; rfl, ?_, by rw [List.length_append]; show _ + 1 ≤ _; omega⟩
        · rw [upd_ne (fun z => by rw [z, nD] at e; cases e)]
          exact q1 _ _ e
        · rw [es]
          unfold big at q3 ⊢
          rw [List.filter_append, List.filter_cons_of_pos (by simpa using h2)]
          exact RunsAt.snoc q3 ⟨db, eb⟩
      · have h2 : ¬ L[i].2 ≥ s0 := of_decide_eq_false (by simpa using h1)
        refine ⟨bs, q1, q2, ?_, Nat.le_succ_of_le q4⟩
        rw [es]
        unfold big at q3 ⊢
        rw [List.filter_append, List.filter_cons_of_neg (by simpa using h2), List.filter_nil, List.append_nil]
        exact q3
    · rintro H2 ⟨bs, q1, q2, q3, q4⟩
      rw [List.length_map, alen, List.take_length] at q3
      have blen := paired_len q3
      refine ⟨_, rfl, !(bs.map V.ref).isEmpty, .inl ⟨_, SqL.of q2, rfl⟩, ?_⟩
      by_cases hb : big L s0 = []
      · have : bs = [] := by rw [hb] at blen; exact List.length_eq_zero_iff.mp blen
        subst this
        refine iteT ?_
        exact kB (by unfold ans; rw [if_pos hb]) H2 (ExtN.of q1) (hT.ext q1)
      · have hne : (bs.map V.ref).isEmpty = false := by
          cases bs with
          | nil => exact absurd (List.length_eq_zero_iff.mp blen.symm) hb
          | cons _ _ => rfl
        rw [hne]
        refine iteF ?_
        refine ⟨_, rfl, cp, z, _, rfl, rfl, kd, ?_⟩
        have bd : ∀ x ∈ big L s0, 0 ≤ x.1 ∧ s0 ≤ x.2 ∧ x.1 + x.2 ≤ 1000 := fun x hx => by
          have h1 := List.mem_filter.mp hx
          have h2 := bd0 x h1.1
          have h3 : s0 ≤ x.2 := by simpa using h1.2
          omega
        refine ⟨rfl, _, rfl, _, rfl, _, rfl, D, s0, mk, bs, big L s0, rfl, q2, RunsAt.same q3 q1, bd, hb, s1, s2, k1, k2, hT.ext q1, fun H3 e3 T3 => ?_⟩
        have ea : ans pk L s0 mk = pk (big L s0) s0 mk := by unfold ans; rw [if_neg hb]
        rw [ea] at kA kB
        cases hc : pk (big L s0) s0 mk with
        | none =>
          refine ⟨_, rfl, rfl, _, rfl, iteT ?_⟩
          exact kB hc H3 ((ExtN.of q1).trans e3) T3
        | some c =>
          have cb : 0 ≤ c ∧ c ≤ 10 ^ 6 := by
            obtain ⟨x, hx, x1, x2⟩ := hpk _ _ _ _ bd s1 k1 hc
            have := bd x hx
            omega
          refine ⟨_, rfl, rfl, _, rfl, iteF ?_⟩
          refine ⟨_, rfl, _, rfl, fun r dr nr ndr ne => ⟨r, dr, c, s0, rfl, upd_same, cb.1, by unfold Most; omega, s1, by unfold Most; omega, rfl, ?_⟩⟩
          rw [upd_upd]
          obtain ⟨s3, r3⟩ := run_new (C := C) (f := c) (m := s0) nr ndr ne
          exact kA c hc _ r ((ExtN.of q1).trans (e3.trans (ExtN.of s3))) (T3.ext s3) (newT_of ((ExtN.of q1).trans e3) nr) r3
theorem ok_chooseT {z : Str} {pk : List Pr → Int → Int → Option Int} {f fH fA fN cc cda : Addr} {fd fdH fdA : FuncData} {doc pm ct : Value}
    (F : Fun K "choose" "Space.choose" s_Space_choose f fd) (T : TR K mg C mc tM) (U : TS K mg S) (N : TN P K mg CN fN cc cda doc pm ct) (bN : Binds K ((nfNR cc cda).fd doc pm ct) ["self", "many"] [])
    (GH : FnOk P w K mg base CX0 7 fH fdH ["self"] (spHoles C S)) (mH : Meth K S "holes" fH) (bH : Binds K fdH ["self"] [])
    (GA : FnOk P w K mg base CX0 5 fA fdA ["policy", "holes", "many", "mark"] (spAnsT Ts C z pk)) (DA : Def K mg "answer_of" fA fdA ["policy", "holes", "many", "mark"]) :
    FnOk P w K mg base (L2.CX P w) 8 f fd ["self", "many"] (spChooseT Ts C S CN z pk) := by
  refine F.okX scChoose (fun vs H Q E h => ?_) (fun cdv A outer s H vs Q E hr h => ?_)
  · obtain ⟨a, d, n, mk, m, ts, rfl, _⟩ := h
    rfl
  · obtain ⟨a, d, n, mk, m, ts, rfl, sp, hd, tk, tl, n1, n2, m1, m2, mz, k1, k2, hT, k⟩ := h
    have hr7 : Room 7 _ := hr
    have hr2 : Room 2 _ := hr.mono (by decide)
    have hr5 : Room 5 _ := hr.mono (by decide)
    refine ⟨_, pss_cons (ps_if (pt_val (pe_callB call_isi (by rfl) T.isi (by decide +kernel) (pa_cons (pe_fld (pv 0) rfl) (pa_cons (pe_bltn (v := .ty "str") (by rfl) U.str (by decide +kernel) rfl) pa_nil))))
        (pss_one (ps_set (i := 2) scChoose.nd rfl (.inl rfl) (pe_call GA hr5 (by rfl) DA.at_ DA.kp DA.bd .nil pass0 (pa_cons (pe_fld (pv 0) rfl) (pa_cons (pe_meth0 (pv 0) U.cl mH GH hr7 bH .nil pass0) (pa_cons (pv 1) (pa_cons (pe_fld (pv 0) rfl) pa_nil)))))))
        (pss_one ps_never))
      (pss_cons (ps_if (pt_cmpR op_isN (pv 2) pe_non (nomark _)) (pss_one (ps_raise rfl (takes_of rfl rfl rfl rfl) (Si.pmk_g N.g N.iC N.tI (ok_norm N) hr2 bN pass0 (by rfl) N.mgN (pa_cons (pv 1) pa_nil)))) pss_nil)
      (pss_one (ps_ret (pv 2)))), ?_⟩
    obtain ⟨dx, fs, ha, p1, p2, p3, p4, p5, p6⟩ := id sp
    refine ⟨_, rfl, a, S, dx, _, _, rfl, ha, U.cl, U.nQ, p2, _, _, .type "str", .type "str", true, rfl, .ty "str", .base (.str z), kit_ty (by decide +kernel), true, rfl, iteT ?_⟩
    refine ⟨_, rfl, a, S, dx, _, _, rfl, ha, U.cl, U.nQ, p2, _, rfl, a, dx, _, rfl, ha, p6 "holes" (by decide +kernel) (by decide +kernel) (by decide +kernel) (by decide +kernel), a, d, n, mk, _, ts, rfl, sp, hd, tk, tl, n1, n2, fun H1 l as L e1 nl el rl hl ll => ?_⟩
    refine ⟨_, rfl, _, rfl, a, S, dx, _, _, rfl, e1 _ _ ha, U.cl, U.nM, p3, l, mk, m, as, L, rfl, el, rl, fun x hx => ?_, ll, m1, m2, mz, k1, k2, hT.ext e1, fun s0 hs0 s1 s2 => ?_⟩
    · have := hl.ok x hx
      omega
    obtain ⟨kA, kB⟩ := k L s0 hl hs0 s1 s2
    refine ⟨fun c hc H2 r e2 T2 nr rr => ?_, fun hn H2 e2 T2 => ?_⟩
    · exact ⟨_, rfl, rfl, _, rfl, iteF ⟨_, rfl, kA c hc H2 r ((ExtN.of e1).trans e2) T2 (newT_back e1 nr) rr⟩⟩
    · exact ⟨_, rfl, rfl, _, rfl, iteT (raise_normT ((ExtN.of e1).trans e2) T2 (by omega) (by omega) 1 rfl (kB hn))⟩
def spTakeT (Ts : Tl) (C S CN : Addr) (z : Str) (pk : List Pr → Int → Int → Option Int) : Sp := fun vs H Q E => ∃ (a d : Addr) (n mk m : Int) (ts : List Pr), vs = [.ref a, .int m] ∧ SpAt S H a n (.str z) mk d ∧ H d = some (.dK (kvI ts)) ∧ Sm.Tk n ts ∧ ts.length < 64 ∧ 1 ≤ n ∧ n ≤ 1000 ∧ 1 ≤ m ∧ m ≤ 1000 ∧ (z = "halves" → m ≤ 500) ∧ 0 ≤ mk ∧ mk ≤ 1000 ∧ Tabs Ts H ∧
  ∀ L s, Sm.HL n ts L → szOk z s m → 1 ≤ s → s ≤ 1000 → (∀ c, ans pk L s mk = some c → ∀ H' r, putT a d H H' → Tabs Ts H' → NewT H r → RunAt C H' r c s → H' d = some (.dK (kvI (ts ++ [(c, s)]))) → SpAt S H' a n (.str z) (if z = "next" then c + s else mk) d → Q (.ref r) H') ∧ (ans pk L s mk = none → GoneT Ts CN m H E)
theorem ok_takeT {z : Str} {pk : List Pr → Int → Int → Option Int} {f fC fO : Addr} {fd fdC fdO : FuncData} (F : Fun K "take" "Space.take" s_Space_take f fd) (U : TS K mg S)
    (GC : FnOk P w K mg base (L2.CX P w) 8 fC fdC ["self", "many"] (spChooseT Ts C S CN z pk)) (mC : Meth K S "choose" fC) (bC : Binds K fdC ["self", "many"] []) (GO : FnOk P w K mg base CX0 3 fO fdO ["self", "run"] (spOcc C S)) (mO : Meth K S "occupy" fO) (bO : Binds K fdO ["self", "run"] []) (hpk : Fit pk) :
    FnOk P w K mg base (L2.CX P w) 9 f fd ["self", "many"] (spTakeT Ts C S CN z pk) := by
  refine F.okX scTakeS (fun vs H Q E h => ?_) (fun cdv A outer s H vs Q E hr h => ?_)
  · obtain ⟨a, d, n, mk, m, ts, rfl, _⟩ := h
    rfl
  · obtain ⟨a, d, n, mk, m, ts, rfl, sp, hd, tk, tl, n1, n2, m1, m2, mz, k1, k2, hT, k⟩ := h
    have hr3 : Room 3 _ := hr.mono (by decide)
    refine ⟨_, pss_cons (ps_set (i := 2) scTakeS.nd rfl (.inl rfl) (pe_meth (E := E) (pv 0) U.cl mC GC hr bC .nil (passes_call (takes_of rfl rfl rfl rfl) fun _ _ _ _ z => z) (pa_cons (pv 1) pa_nil)))
      (pss_cons (ps_expr (pe_meth (pv 0) U.cl mO GO hr3 bO .nil pass0 (pa_cons (pv 2) pa_nil))) (pss_one (ps_ret (pv 2)))), ?_⟩
    obtain ⟨dx, fs, ha, p1, p2, p3, p4, p5, p6⟩ := id sp
    refine ⟨_, rfl, a, dx, _, rfl, ha, p6 "choose" (by decide +kernel) (by decide +kernel) (by decide +kernel) (by decide +kernel), _, rfl, a, d, n, mk, m, ts, rfl, sp, hd, tk, tl, n1, n2, m1, m2, mz, k1, k2, hT, fun L s0 hl hs s1 s2 => ⟨fun c hc H1 r e1 T1 nr rr => ?_, (k L s0 hl hs s1 s2).2⟩⟩
    obtain ⟨c0, c1, c2, c3⟩ := fit_free hpk tk hl n2 s1 k1 hc
    have sp1 := sp.extN e1
    have ha1 := e1 _ _ ha (fun ps z => by cases z)
    have hd1 := e1 _ _ hd (fun ps z => by cases z)
    refine ⟨_, rfl, a, dx, _, rfl, ha1, p6 "occupy" (by decide +kernel) (by decide +kernel) (by decide +kernel) (by decide +kernel), _, rfl, a, r, d, n, mk, c, s0, z, ts, rfl, sp1, hd1, rr, fun x hx q => ?_, Nat.lt_trans tl (by decide), fun H2 e2 h2 sp2 => ?_⟩
    · have := tk.ok x hx
      exact c2 c ⟨Int.le_refl _, by show c < c + s0; omega⟩ x hx ⟨by omega, by omega⟩
    · have ra : r ≠ a := (nr.ne ha (fun ps z => by cases z)).symm
      have rd : r ≠ d := (nr.ne hd (fun ps z => by cases z)).symm
      obtain ⟨dr, er⟩ := rr
      exact ⟨_, rfl, (k L s0 hl hs s1 s2).1 c hc H2 r (fun q o qa qd nt e => e2 q o qa qd (e1 _ _ e nt)) (tabs_put2 T1 e2 ha1 hd1 ins_nt dk_nt) nr ⟨dr, e2 r _ ra rd er⟩ h2 sp2⟩
end
end Sc
namespace Sc
open PySem L2
/-! ### _next -/
def nv (s mk : Int) (x : Pr) : Option Int := if (if mk > x.1 then mk else x.1) + s ≤ x.1 + x.2 then some (if mk > x.1 then mk else x.1) else none
def pkNext (L : List Pr) (s mk : Int) : Option Int := (L.findSome? (nv s mk)).or (L.head?.map (·.1))
theorem nv_of {s mk d : Int} {x : Pr} (h : nv s mk x = some d) : x.1 ≤ d ∧ mk ≤ d ∧ d + s ≤ x.1 + x.2 := by
  unfold nv at h
  by_cases q : (if mk > x.1 then mk else x.1) + s ≤ x.1 + x.2
  · rw [if_pos q] at h
    have e := Option.some.inj h
    by_cases z : mk > x.1
    · rw [if_pos z] at q e
      omega
    · rw [if_neg z] at q e
      omega
  · rw [if_neg q] at h
    cases h
theorem fit_next : Fit pkNext := fun L s mk c bd s1 _ h => by
  unfold pkNext at h
  cases e : L.findSome? (nv s mk) with
  | some d =>
    rw [e] at h
    cases h
    obtain ⟨x, hx, e2⟩ := List.exists_of_findSome?_eq_some e
    exact ⟨x, hx, (nv_of e2).1, (nv_of e2).2.2⟩
  | none =>
    rw [e] at h
    cases L with
    | nil => cases h
    | cons x r =>
      cases h
      have := bd x (List.mem_cons_self ..)
      refine ⟨x, List.mem_cons_self .., Int.le_refl _, ?_⟩
      show x.1 + s ≤ x.1 + x.2
      omega
section
variable {P : Program} {w : World} {K : PySem.W.Frag} {mg : Str → Option Value} {base : Heap} {C S CN : Addr} {mc : Value} {tM : Tok}
theorem scNext : FnScope ["holes", "many", "mark", "hole", "first"] ["holes", "many", "mark"] (defScope s__next) := ⟨rfl, rfl, rfl, by decide +kernel, rfl, by decide +kernel, by decide +kernel⟩
theorem ok_next {f fE pp : Addr} {fd fdE : FuncData} (F : Fun K "_next" "_next" s__next f fd) (T : TR K mg C mc tM) (U : TS K mg S) (GE : FnOk P w K mg base CX0 1 fE fdE ["self"] (spEnd C)) (bE : Binds K fdE ["self"] []) (pE : PropOf K C "end" pp fE) : FnOk P w K mg base CX0 3 f fd ["holes", "many", "mark"] (spCh C pkNext) := by
  refine F.ok scNext (fun vs H Q E h => ?_) (fun cdv A outer s H vs Q E hr h => ?_)
  · obtain ⟨l, s, mk, as, L, rfl, _⟩ := h
    rfl
  · obtain ⟨l, s, mk, as, L, rfl, hl, rs, bd, ne, s1, s2, m0, m1, k⟩ := h
    have hlen := paired_len rs
    refine ⟨_, pss_cons (ps_for PassesOwn.never rfl (pi_list (pv 0)) (pg_name (i := 3) scNext.nd rfl (.inl rfl))
        (pss_cons (ps_set (i := 4) scNext.nd rfl (.inl rfl) (pe_callB (call_max2 rfl) (by rfl) U.max (by decide +kernel) (pa_cons (pe_fld (pv 3) rfl) (pa_cons (pv 2) pa_nil))))
        (pss_one (ps_if (pt_cmpR op_le (pe_op op_add (pv 4) (pv 1)) (pe_prop (pv 3) T.cl pE GE hr bE .nil pass0 rfl) (nomark _)) (pss_one (ps_ret (pv 4))) pss_nil))))
      (pss_one (ps_ret (pe_fld (pe_ix ix_list (pv 0) pe_int (fun _ _ => rfl)) rfl))), ?_⟩
    refine ⟨_, rfl, l, rfl, ⟨_, SqL.of hl⟩, for_list (K := K) (a := l) (xs := as.map V.ref) (fun i σ H' => H' = H ∧ ∃ v3 v4 : Option V, σ = [some (.ref l), some (.int s), some (.int mk), v3, v4] ∧ (L.take i).findSome? (nv s mk) = none) ⟨rfl, none, none, rfl, rfl⟩ (fun i σ H' hi z => by rw [z.1]; exact SqL.of hl) ?_ ?_⟩
    · rintro i x σ H' hx ⟨rfl, v3, v4, rfl, hn⟩
      rw [List.getElem?_map] at hx
      obtain ⟨b, hb, rfl⟩ := Option.map_eq_some_iff.mp hx
      have il : i < L.length := by rw [← hlen]; exact (List.getElem?_eq_some_iff.mp hb).1
      have hL : L[i]? = some L[i] := List.getElem?_eq_getElem il
      obtain ⟨db, eb⟩ := paired_ith rs hb hL
      obtain ⟨b0, b1, b2⟩ := bd L[i] (List.getElem_mem il)
      have es : L.take (i + 1) = L.take i ++ [L[i]] := by rw [List.take_succ, hL]; rfl
      refine ⟨_, rfl, b, C, db, _, _, rfl, eb, T.cl, T.nF, rf_f _ _, _, rfl, _, _, rfl, ?_⟩
      refine ⟨_, rfl, _, rfl, _, _, rfl, rfl, _, rfl, b, db, _, rfl, eb, b, _, _, rfl, ⟨db, eb⟩, _, _, rfl, rfl, _, rfl, ite2 (fun h1 => ?_) fun h1 => ?_⟩
      · have h2 : (if mk > L[i].1 then mk else L[i].1) + s ≤ L[i].1 + L[i].2 := of_decide_eq_true h1
        refine ⟨_, rfl, ?_⟩
        have : pkNext L s mk = some (if mk > L[i].1 then mk else L[i].1) := by
          unfold pkNext
          rw [fs_at hL hn (by unfold nv; rw [if_pos h2])]
          rfl
        rw [this] at k
        exact k
      · have h2 : ¬ (if mk > L[i].1 then mk else L[i].1) + s ≤ L[i].1 + L[i].2 := of_decide_eq_false (by simpa using h1)
        refine ⟨rfl, _, _, rfl, ?_⟩
        rw [es, List.findSome?_append, hn]
        have : nv s mk L[i] = none := by unfold nv; rw [if_neg h2]
        simp [this]
    · rintro σ H' ⟨rfl, v3, v4, rfl, hn⟩
      rw [List.length_map, hlen, List.take_length] at hn
      cases L with
      | nil => exact absurd rfl ne
      | cons x r =>
        cases rs with
        | cons ra rr =>
          rename_i b as'
          obtain ⟨db, eb⟩ := ra
          have : pkNext (x :: r) s mk = some x.1 := by
            unfold pkNext
            rw [hn]
            rfl
          rw [this] at k
          exact ⟨_, rfl, l, _, _, .ref b, rfl, rfl, SqL.of hl, at_of (j := 0) rfl rfl, b, C, db, _, _, rfl, eb, T.cl, T.nF, rf_f _ _, k⟩
end
end Sc
namespace Sc
open PySem L2 LamX
/-! ### all five words -/
section
variable {P : Program} {w : World} {K : PySem.W.Frag} {mg : Str → Option Value} {base : Heap} {C S CN : Addr} {mc : Value} {tM : Tok} {Ts : Tl}
theorem chT_of {f : Addr} {fd : FuncData} {CX : CXT} {k : Nat} {ps : List Str} {pk : List Pr → Int → Int → Option Int} (G : FnOk P w K mg base CX k f fd ps (spCh C pk)) : FnOk P w K mg base CX k f fd ps (spChT Ts C pk) :=
  G.imp fun vs H Q E ⟨l, s, mk, as, L, e, hl, rs, bd, ne, s1, s2, m0, m1, hT, q⟩ => ⟨l, s, mk, as, L, e, hl, rs, bd, ne, s1, s2, m0, m1, q H (ExtN.refl H) hT⟩
end
def Pol5 (z : Str) (pk : List Pr → Int → Int → Option Int) : Prop := (z = "first" ∧ pk = pkFirst) ∨ (z = "best" ∧ pk = pkSz false) ∨ (z = "worst" ∧ pk = pkSz true) ∨ (z = "next" ∧ pk = pkNext) ∨ (z = "halves" ∧ pk = pkHalves)
theorem Pol5.fit {z : Str} {pk : List Pr → Int → Int → Option Int} (h : Pol5 z pk) : Fit pk := by
  rcases h with ⟨_, rfl⟩ | ⟨_, rfl⟩ | ⟨_, rfl⟩ | ⟨_, rfl⟩ | ⟨_, rfl⟩
  · exact fit_first
  · exact fit_sz false
  · exact fit_sz true
  · exact fit_next
  · exact fit_halves
end Sc
namespace Sc
open PySem L2
/-- a run beside anything -/
def spEqA (K : PySem.W.Frag) (C : Addr) : Sp := fun vs H Q _ => ∃ (a : Addr) (f m : Int) (y : V), vs = [.ref a, y] ∧ RunAt C H a f m ∧
  ((∃ (b : Addr) (g n : Int), y = .ref b ∧ RunAt C H b g n ∧ Q (.bl (decide (f = g ∧ m = n))) H) ∨ ∃ t, TyX K H y t ∧ PySem.W.kitOne K t (.ref C) = some false ∧ Q (.bl false) H)
section
variable {P : Program} {w : World} {K : PySem.W.Frag} {mg : Str → Option Value} {base : Heap} {C : Addr} {mc : Value} {tM : Tok}
theorem scEq : FnScope ["self", "other"] ["self", "other"] (defScope s_Run___eq__) := ⟨rfl, rfl, rfl, by decide +kernel, rfl, by decide +kernel, by decide +kernel⟩
theorem ok_eq {f : Addr} {fd : FuncData} (F : Fun K "__eq__" "Run.__eq__" s_Run___eq__ f fd) (T : TR K mg C mc tM) (Z : IsR K C) : FnOk P w K mg base CX0 1 f fd ["self", "other"] (spEqA K C) := by
  refine F.ok scEq (fun vs H Q E h => ?_) (fun cdv A outer s H vs Q E hr h => ?_)
  · obtain ⟨a, f, m, y, rfl, _⟩ := h
    rfl
  · obtain ⟨a, f, m, y, rfl, ⟨dx, ha⟩, k⟩ := h
    refine ⟨_, pss_one (ps_ret (pe_and (pe_callB call_isi (by rfl) T.isi (by decide +kernel) (pa_cons (pv 1) (pa_cons (pe_glob (v := .ref C) rfl T.mgC rfl) pa_nil)))
      (pe_and (pe_cmpR op_eq (pe_fld (pv 0) rfl) (pe_fld (pv 1) rfl) (nomark _)) (pe_one (pe_cmpR op_eq (pe_fld (pv 0) rfl) (pe_fld (pv 1) rfl) (nomark _)))))), ?_⟩
    rcases k with ⟨b, g, n, rfl, ⟨dy, hb⟩, k⟩ | ⟨t, ty, hk, k⟩
    · refine ⟨_, rfl, _, _, .ref C, .ref C, true, rfl, .own C, .base (.ins hb T.cl Z.ha Z.hn Z.htk Z.hm), kit_self, true, rfl, iteT ?_⟩
      refine ⟨_, rfl, a, C, dx, _, _, rfl, ha, T.cl, T.nF, rf_f _ _, _, rfl, b, C, dy, _, _, rfl, hb, T.cl, T.nF, rf_f _ _, rfl, _, rfl, ?_⟩
      by_cases hfg : f = g
      · subst hfg
        rw [show decide (V.int f = V.int f) = true from decide_eq_true rfl]
        refine iteT ⟨_, rfl, a, C, dx, _, _, rfl, ha, T.cl, T.nM, rf_m _ _, _, rfl, b, C, dy, _, _, rfl, hb, T.cl, T.nM, rf_m _ _, rfl, ?_⟩
        have e : decide (f = f ∧ m = n) = decide (V.int m = V.int n) := by
          by_cases z : m = n
          · rw [z]; simp
          · rw [decide_eq_false (fun q => z q.2), decide_eq_false (fun q => z (by cases q; rfl))]
        rw [e] at k
        exact k
      · rw [show decide (V.int f = V.int g) = false from decide_eq_false (fun q => hfg (by cases q; rfl))]
        refine iteF ?_
        rw [show decide (f = g ∧ m = n) = false from decide_eq_false (fun q => hfg q.1)] at k
        exact k
    · refine ⟨_, rfl, _, _, t, .ref C, false, rfl, .own C, ty, hk, false, rfl, iteF ?_⟩
      exact k
end
end Sc
/-! A lambda without captured names as a value: made, kept, called by a local name. -/
namespace Lf
open PySem PySem.Spec PyProof.Rows L2 LamX
/-- the words of a lambda -/
structure LF where
  q : Str
  params : Arguments
  body : Expr
  scope : Scope
abbrev LF.obj (F : LF) (pm : Value) (c : Addr) (ctv : Value) : Obj := PySem.W.kla_obj "<lambda>" F.q F.params F.body F.scope [] pm c ctv
/-- the object at f is such a lambda, its code object the one at c -/
def LamO (f c : Addr) (F : LF) : HO := .ext fun h => ∃ pm ctv, h.get? f = some (F.obj pm c ctv)
def LamAt (H : Hp) (f : Addr) (F : LF) : Prop := ∃ c, H f = some (LamO f c F) ∧ H c = some (CodeO c F.q)
theorem lamO_nt {f c : Addr} {F : LF} : (∀ ps, LamO f c F ≠ .tbl ps) ∧ (∀ C dx fs, LamO f c F ≠ .ins C dx fs) ∧ (∀ xs, LamO f c F ≠ .lst xs) ∧ ∀ es, LamO f c F ≠ .dK es := by
  unfold LamO
  exact ⟨fun _ z => (by cases z), fun _ _ _ z => (by cases z), fun _ z => (by cases z), fun _ z => (by cases z)⟩
theorem LamAt.ext {H H' : Hp} {f : Addr} {F : LF} (l : LamAt H f F) (e : ExtN H H') : LamAt H' f F := by
  obtain ⟨c, h1, h2⟩ := l
  exact ⟨c, e _ _ h1 lamO_nt.1, e _ _ h2 codeO_ne⟩
section
variable {X : Cx} {pins : List (Addr × Obj)} {σ : L2.St} {H : Hp} {s : Shared}
theorem LamAt.obj {f : Addr} {F : LF} (l : LamAt H f F) (hok : HOk X.prog X.w H s.heap) : ∃ c pm ctv, s.heap.get? f = some (F.obj pm c ctv) ∧ s.heap.CodeRec (.ref c) F.q := by
  obtain ⟨c, h1, h2⟩ := l
  obtain ⟨⟨pm, ctv, e⟩, _, _⟩ := hok f _ h1
  exact ⟨c, pm, ctv, e, NdefX.codeO_at hok h2⟩
theorem inv_lam {F : LF} {c : Addr} {pm ctv : Value} {h' : Heap} {tk : Nat} (I : Inv X pins σ H s) (k : ∀ b o, s.heap.get? b = some o → h'.get? b = some o) (hs : s.heap.objs.size ≤ h'.objs.size) :
    Inv X pins σ (upd H h'.objs.size (LamO h'.objs.size c F)) { s with heap := h'.push (F.obj pm c ctv), toks := tk } :=
  I.laid (fun b u e => Heap.get?_push_of_some _ (k b u e)) hs ⟨⟨pm, ctv, Heap.get?_push_size _ rfl⟩, ⟨_, Heap.get?_push_size _ rfl⟩, fun _ _ ⟨pm, ctv, z⟩ st => ⟨pm, ctv, st _ z⟩⟩
def tLamF (T : List (Addr × Str)) (F : LF) : TE := fun _ H Q => Tabs T H ∧ ∀ (f : Addr) (H1 : Hp), ExtN H H1 → Tabs T H1 → H f = none → LamAt H1 f F → Q (.ref f) H1
theorem extN_new {H : Hp} {a : Addr} {o : HO} (n : H a = none) : ExtN H (upd H a o) := fun b u e _ => by
  rw [upd_ne (ne_of_none e n)]
  exact e
/-- lambda ..: .. -/
theorem pe_lamF {T : List (Addr × Str)} {c P : Addr} {params : Arguments} {body : Expr} {scope : Scope} {pos : Pos} {N ps : List Str} (TB : TabB X.base X.mg c P) (hcode : X.env.code = .ref c) (hm : (P, X.env.qual ++ "<lambda>") ∈ T) (hu : ∀ p ∈ T, p.1 = P → p.2 = X.env.qual ++ "<lambda>")
    (S : FnScope N ps scope) (hdef : defaultsOf params X.env = ([], [])) (hclo : cloFrom X.env.cells scope.names [] = []) : PE X (.Lambda params body scope pos) (tLamF T ⟨X.env.qual ++ "<lambda>", params, body, scope⟩) := by
  refine ⟨fun pins s σ H Q I ⟨hT, q⟩ => PySem.W.kla_eval hdef ?_⟩
  have hcl : closureFor scope X.env = pure [] := by
    rw [← hclo]
    exact closure_ok fun y hy z => absurd z (S.nofree y hy)
  obtain ⟨ps, hP, ht, ha⟩ := hT _ hm
  have oP : s.heap.get? P = some (PySem.W.tabObj ps) := I.hok P _ hP
  have gl := I.mod.glob.keeps I.bk
  have cd := TB.code.keeps I.bk
  have bl := TB.bm.keeps I.bk
  cases hc : codeAmong pos ps.toList with
  | some cv =>
    obtain ⟨c1, rfl, hco⟩ := ha pos cv hc
    refine PySem.W.kla_makeFunctionHit hcl I.ok.glob gl hcode cd oP ht hc bl fun ctv h' tk k hs => ?_
    have nf : H h'.objs.size = none := I.hok.fresh hs
    have e := extN_new (o := LamO h'.objs.size c1 ⟨X.env.qual ++ "<lambda>", params, body, scope⟩) nf
    refine ⟨.ref h'.objs.size, _, inv_lam (F := ⟨X.env.qual ++ "<lambda>", params, body, scope⟩) I k hs, rfl, q _ _ e (hT.ext fun b o z => ?_) nf ⟨c1, upd_same, e _ _ hco codeO_ne⟩⟩
    rw [upd_ne (ne_of_none z nf)]
    exact z
  | none =>
    refine PySem.W.kla_makeFunction hcl I.ok.glob gl hcode cd oP ht hc TB.gP bl fun c1 ctv h' tk x hge hlt hrec htb => ?_
    obtain ⟨_, oc, vs, t, e1, hoc, hd, hv⟩ := hrec
    cases e1
    have hs : s.heap.objs.size ≤ h'.objs.size := Nat.le_trans hge (Nat.le_of_lt hlt)
    have nc : H c1 = none := I.hok.fresh hge
    have nPc : P ≠ c1 := ne_of_none hP nc
    have I1 := inv_table (t' := tk) (more := #[rawInt pos.line, rawInt pos.col, .ref c1]) (h' := h') (q := X.env.qual ++ "<lambda>") I hP (fun b o hb e => x b o hb e) htb hge ⟨oc, vs, t, hoc, hd, hv⟩
    have I2 := inv_lam (F := ⟨X.env.qual ++ "<lambda>", params, body, scope⟩) (c := c1) (pm := (X.mg "__name__").getD .none) (ctv := ctv) (h' := h') (tk := tk) I1 (fun _ _ z => z) (Nat.le_refl _)
    generalize hH : upd (upd H P (.tbl (ps ++ #[rawInt pos.line, rawInt pos.col, .ref c1]))) c1 (CodeO c1 (X.env.qual ++ "<lambda>")) = H1 at I1 I2
    have nf : H1 h'.objs.size = none := I1.hok.fresh (Nat.le_refl _)
    have E1 : ExtN H H1 := fun b o e n => by
      rw [← hH, upd_ne (ne_of_none e nc), upd_ne fun z => by rw [z, hP] at e; exact n _ (Option.some.inj e).symm]
      exact e
    have E2 := extN_new (o := LamO h'.objs.size c1 ⟨X.env.qual ++ "<lambda>", params, body, scope⟩) nf
    have at1 : H1 c1 = some (CodeO c1 (X.env.qual ++ "<lambda>")) := by rw [← hH, upd_same]
    refine ⟨.ref h'.objs.size, _, I2, rfl, q _ _ (E1.trans E2) (Tabs.ext (fun p hp => ?_) fun b o z => by rw [upd_ne (ne_of_none z nf)]; exact z) (I.hok.fresh hs) ⟨c1, upd_same, E2 _ _ at1 codeO_ne⟩⟩
    by_cases hb : p.1 = P
    · refine ⟨ps ++ #[rawInt pos.line, rawInt pos.col, .ref c1], ?_, ?_, fun p' cv hcv => ?_⟩
      · rw [hb, ← hH, upd_ne nPc, upd_same]
      · rw [Array.toList_append]
        exact PySem.TriplesOk_snoc _ _ _ _ ht
      · rcases among_app (pos := pos) (p' := p') (c := .ref c1) ps.toList ht (by simpa using hcv) with z | rfl
        · obtain ⟨c0, z1, z2⟩ := ha p' cv z
          exact ⟨c0, z1, E1 _ _ (by rw [hu p hp hb]; exact z2) codeO_ne⟩
        · exact ⟨c1, rfl, by rw [hu p hp hb]; exact at1⟩
    · obtain ⟨qs, z1, z2, z3⟩ := hT p hp
      refine ⟨qs, ?_, z2, fun p' cv hcv => ?_⟩
      · rw [← hH, upd_ne (ne_of_none z1 nc), upd_ne hb]
        exact z1
      · obtain ⟨c0, y1, y2⟩ := z3 p' cv hcv
        exact ⟨c0, y1, E1 _ _ y2 codeO_ne⟩
end
end Lf
/-! What isinstance asks of a function: its type, and its `__class__`. -/
namespace Fnc
open PySem
open Sem (wp)
theorem lkGa : typeLookup (.type "function") "__getattribute__" = pure (some (.builtin "object.__getattribute__")) := by rw [typeLookup_type, builtinLookup_eq_fast]; kernel_rfl
theorem lkCls : typeLookup (.type "function") "__class__" = pure (some (.builtin "object.__class__")) := by rw [typeLookup_type, builtinLookup_eq_fast]; kernel_rfl
theorem subObj : isSubtype (.type "function") (.type (".".intercalate ("object.__class__".cutAt '.').dropLast)) = pure true := by
  rw [F.owner_object_class, isSubtype_type]; kernel_rfl
theorem gaSlot : Slot "function" "__getattribute__" "object.__getattribute__" := .of (owner := "object") (n := "__getattribute__") lkGa (by decide +kernel) (by decide +kernel) (by decide +kernel) (by first | exact .inl (by decide +kernel) | exact .inr (by decide +kernel)) (by rw [isSubtype_type]; kernel_rfl)
section
variable {prog : Program} {w : World} {A : Around} {E : Value → Shared → Prop} {s : Shared} {f : Addr}
theorem class_fn {Q : Option Value → Shared → Prop} (ty : s.TypeIs (.ref f) "function") (hq : Q (some (.type "function")) { s with toks := s.toks + 1 }) : wpAny (model prog w) A (getAttr? (.ref f) "__class__") Q E s := by
  obtain ⟨h, g, d, t, os⟩ := s
  obtain ⟨⟨cl, od, dt, sl⟩, ho, hc⟩ := ty
  cases (show cl = _ from hc)
  dsimp only at ho hq
  have hT : ∀ t, (⟨h, g, d, t, os⟩ : Shared).TypeIs (.ref f) "function" := fun _ => ⟨_, ho, rfl⟩
  have hD : ∀ t, (⟨h, g, d, t, os⟩ : Shared).TypeIs (.builtin "object.__class__") "getset_descriptor" := fun _ => F.typeOf_object_class
  have e1 := F.typeOf_object_class
  have e2 := F.slot_gs_get.lookup
  have e3 := F.slot_gs_set.lookup
  have e4 := lkCls
  have e5 := subObj
  have e6 := gaSlot.lookup
  have e7 := gaSlot.bind (.ref f)
  unfold getAttr? getAttrBy?
  repeat (any_goals (first | assumption | exact hT _ | exact hD _ | wp_step))
  refine codeAny_call_builtin gaSlot.plain F.entry_object_getattribute (gaSlot.check _ _ _ _ _ _ _ _ (hT _) (F.args_object_getattribute_2 _ _) ?_)
  repeat (any_goals (first | assumption | exact hT _ | exact hD _ | wp_step))
  refine codeAny_call_builtin F.slot_gs_get.plain F.entry_gs_get (F.slot_gs_get.check _ _ _ _ _ _ _ _ (hD _) (F.args_gs_get _ _ _) ?_)
  repeat (any_goals (first | assumption | exact hT _ | exact hD _ | wp_step))
  refine ⟨Code.quiet_builtin _ (by decide +kernel), codeAny_builtin F.entry_object_class ?_⟩
  repeat (any_goals (first | assumption | exact hT _ | exact hD _ | wp_step))
end
end Fnc
/-! A function compared with a text: never equal. -/
namespace Fnc
open PySem PyProof.Rows
open Sem (wp)
theorem subStrFn : isSubtype (.type "str") (.type "function") = pure false := by rw [isSubtype_type]; kernel_rfl
theorem subFnStr : isSubtype (.type "function") (.type "str") = pure false := by rw [isSubtype_type]; kernel_rfl
theorem eqSlot : Slot "function" (cmpInfo .Eq).2.1 "object.__eq__" := .of (owner := "object") (n := "__eq__") (by rw [typeLookup_type, builtinLookup_eq_fast]; kernel_rfl) (by decide +kernel) (by decide +kernel) (by decide +kernel) (by first | exact .inl (by decide +kernel) | exact .inr (by decide +kernel)) (by rw [isSubtype_type]; kernel_rfl)
theorem neSlot : Slot "function" (cmpInfo .NotEq).2.1 "object.__ne__" := .of (owner := "object") (n := "__ne__") (by rw [typeLookup_type, builtinLookup_eq_fast]; kernel_rfl) (by decide +kernel) (by decide +kernel) (by decide +kernel) (by first | exact .inl (by decide +kernel) | exact .inr (by decide +kernel)) (by rw [isSubtype_type]; kernel_rfl)
section
variable {prog : Program} {w : World} {A : Around} {E : Value → Shared → Prop} {s : Shared} {f : Addr} {x : Str} {u : Tok}
theorem call_eq {Q : Value → Shared → Prop} (ty : s.TypeIs (.ref f) "function") (hq : Q .notImplemented s) : wpAny (model prog w) A (call (.builtin "object.__eq__") [.ref f, .str x u]) Q E s := by
  refine wpAny_call (codeAny_call_builtin eqSlot.plain F.entry_object_eq (eqSlot.check _ _ _ _ _ _ _ _ ty (F.args_object_eq_2 _ _) ?_))
  obtain ⟨h, g, d, t, os⟩ := s
  repeat (any_goals (first | assumption | wp_step))
theorem call_str_eq {Q : Value → Shared → Prop} {od : Option Addr} {fd : FuncData} {sl : Array (Option Value)} (ho : s.heap.get? f = some ⟨.type "function", od, .func fd, sl⟩) (hq : Q .notImplemented s) : wpAny (model prog w) A (call (.builtin "str.__eq__") [.str x u, .ref f]) Q E s := by
  refine wpAny_call (codeAny_call_builtin F.slot_str_eq_refl.plain F.entry_str_eq (F.slot_str_eq_refl.check _ _ _ _ _ _ _ _ rfl (F.args_str_eq_2 _ _) ?_))
  obtain ⟨h, g, d, t, os⟩ := s
  have e := subFnStr
  have hT : (⟨h, g, d, t, os⟩ : Shared).TypeIs (.ref f) "function" := ⟨_, ho, rfl⟩
  repeat (any_goals (first | assumption | exact ho | with_reducible refine wpAny_load ho ?_ | wp_step))
theorem call_str_ne {Q : Value → Shared → Prop} {od : Option Addr} {fd : FuncData} {sl : Array (Option Value)} (ho : s.heap.get? f = some ⟨.type "function", od, .func fd, sl⟩) (hq : Q .notImplemented s) : wpAny (model prog w) A (call (.builtin "str.__ne__") [.str x u, .ref f]) Q E s := by
  refine wpAny_call (codeAny_call_builtin F.slot_str_ne_refl.plain F.entry_str_ne (F.slot_str_ne_refl.check _ _ _ _ _ _ _ _ rfl (F.args_str_ne_2 _ _) ?_))
  obtain ⟨h, g, d, t, os⟩ := s
  have e := subFnStr
  have hT : (⟨h, g, d, t, os⟩ : Shared).TypeIs (.ref f) "function" := ⟨_, ho, rfl⟩
  repeat (any_goals (first | assumption | exact ho | with_reducible refine wpAny_load ho ?_ | wp_step))
theorem call_ne {Q : Value → Shared → Prop} (ty : s.TypeIs (.ref f) "function") (hu : A.units + 1 < cLine) (hq : Q .notImplemented s) : wpAny (model prog w) A (call (.builtin "object.__ne__") [.ref f, .str x u]) Q E s := by
  refine wpAny_call (codeAny_call_builtin neSlot.plain F.entry_object_ne (neSlot.check _ _ _ _ _ _ _ _ ty (F.cmpArgs_ne _ _) ?_))
  obtain ⟨h, g, d, t, os⟩ := s
  have e1 : typeLookup (.type "function") "__eq__" = pure (some (.builtin "object.__eq__")) := eqSlot.lookup
  have e2 := eqSlot.bind (.ref f)
  obtain ⟨⟨cl, od, dt, sl⟩, ho, hc⟩ := ty
  cases (show cl = _ from hc)
  have hT : (⟨h, g, d, t, os⟩ : Shared).TypeIs (.ref f) "function" := ⟨_, ho, rfl⟩
  have hu' : A.in1.units < cLine := hu
  unfold Builtin.«object.__ne__»
  repeat (any_goals (first | assumption | with_reducible refine wpAny_cRoomFor hu' ?_ | ((with_reducible show wpAny _ _ (callSpecialIfBound? _ _ _) _ _ _); refine wpAny_callSpecialIfBound?_slot hT eqSlot (call_eq hT ?_)) | wp_step))
theorem fn_eq_str {Q : Value → Shared → Prop} {od : Option Addr} {fd : FuncData} {sl : Array (Option Value)} (ho : s.heap.get? f = some ⟨.type "function", od, .func fd, sl⟩) (hu : A.units < cLine) (h : Q (.bool false) s) : wpAny (model prog w) A (richCompare .Eq (.ref f) (.str x u)) Q E s :=
  PySem.SeqAt.rc_eq_decline_or (k := false) ⟨_, ho, rfl⟩ rfl (by decide) subStrFn eqSlot F.slot_str_eq_refl (fun _ hq => call_eq ⟨_, ho, rfl⟩ hq) (fun _ hq => call_str_eq ho hq) (fun _ hq => wpAny_of_eq (rfl : isSame (.ref f) (.str x u) = pure false) hq) (.inr hu) h
theorem fn_ne_str {Q : Value → Shared → Prop} {od : Option Addr} {fd : FuncData} {sl : Array (Option Value)} (ho : s.heap.get? f = some ⟨.type "function", od, .func fd, sl⟩) (hu : A.units + 1 < cLine) (h : Q (.bool true) s) : wpAny (model prog w) A (richCompare .NotEq (.ref f) (.str x u)) Q E s :=
  PySem.SeqAt.rc_ne_decline_or (k := false) ⟨_, ho, rfl⟩ rfl (by decide) subStrFn neSlot F.slot_str_ne_refl (fun _ hq => call_ne ⟨_, ho, rfl⟩ hu hq) (fun _ hq => call_str_ne ho hq) (fun _ hq => wpAny_of_eq (rfl : isSame (.ref f) (.str x u) = pure false) hq) (.inr (Nat.lt_of_succ_lt hu)) h
end
end Fnc
/-! What a program does with a lambda that it keeps: isinstance, == and != with a text, calls. -/
namespace Lf
open PySem PySem.Spec PyProof.Rows L2 LamX
section
variable {X : Cx} {pins : List (Addr × Obj)} {σ : L2.St} {H : Hp} {s : Shared}
theorem LamAt.fn {f : Addr} {F : LF} (l : LamAt H f F) (hok : HOk X.prog X.w H s.heap) : ∃ od fd sl, s.heap.get? f = some ⟨.type "function", od, .func fd, sl⟩ := by
  obtain ⟨c, pm, ctv, e, _⟩ := l.obj hok
  exact ⟨_, _, _, e⟩
theorem kit_fn {f : Addr} {K : PySem.W.Frag} : PySem.W.KitX K (.ref f) (.type "function") (PySem.W.KitAt f "function") :=
  PySem.W.kitx_of PySem.W.kitAt_ty fun p k => Fnc.class_fn (by obtain ⟨o, h1, h2⟩ := p; exact ⟨o, h1, h2⟩) k
/-- a text, or such a lambda -/
def PolV (F : LF) (H : Hp) (x : V) : Prop := (∃ z, x = .str z) ∨ ∃ f, x = .ref f ∧ LamAt H f F
theorem PolV.ext {F : LF} {H H' : Hp} {x : V} (p : PolV F H x) (e : ExtN H H') : PolV F H' x := p.imp id fun ⟨f, h1, h2⟩ => ⟨f, h1, h2.ext e⟩
def rIsiF (F : LF) (K : PySem.W.Frag) : List V → Hp → VK → Prop := fun xs H Q => ∃ (f : Addr) (c : V) (u : Value) (b : Bool), xs = [.ref f, c] ∧ ClsV c u ∧ LamAt H f F ∧ PySem.W.kitOne K (.type "function") u = some b ∧ Q (.bl b) H
theorem call_isiF {F : LF} : CallR X (.builtin "isinstance") (rIsiF F X.K) := by
  rintro pins s σ H xs us Q I r ⟨f, c, u, b, rfl, k, l, e, q⟩
  obtain ⟨u1, u2, rfl, r1, r2⟩ := vals2 r
  cases (show u1 = Value.ref f from r1)
  rw [k.eq r2]
  obtain ⟨od, fd, sl, ho⟩ := l.fn I.hok
  exact PySem.W.kia_one kit_fn I.kIn ⟨_, ho, rfl⟩ e (fun z => nomatch z) fun tk => ⟨.bl b, H, I.tok tk, rfl, q⟩
/-- isinstance(x, C): x a text or a lambda -/
def rIsiP (F : LF) (K : PySem.W.Frag) : List V → Hp → VK → Prop := fun xs H Q => (∃ f, xs.head? = some (.ref f) ∧ rIsiF F K xs H Q) ∨ rIsi K xs H Q
theorem call_isiP {F : LF} : CallR X (.builtin "isinstance") (rIsiP F X.K) := by
  rintro pins s σ H xs us Q I r (⟨f, _, h⟩ | h)
  · exact call_isiF pins s σ H xs us Q I r h
  · exact call_isi pins s σ H xs us Q I r h
def rIsiTP (F : LF) (K : PySem.W.Frag) : List V → Hp → VK → Prop := fun xs H Q => (∃ (f tp : Addr) (cs : List V) (us : List Value) (b : Bool), xs = [.ref f, .ref tp] ∧ LamAt H f F ∧ H tp = some (.tup cs) ∧ Paired ClsV cs us ∧ PySem.W.kitAny K (.type "function") us = some b ∧ Q (.bl b) H) ∨ rIsiT K xs H Q
theorem call_isiTP {F : LF} : CallR X (.builtin "isinstance") (rIsiTP F X.K) := by
  rintro pins s σ H xs us Q I r (⟨f, tp, cs, ws, b, rfl, l, hT, k, e, q⟩ | h)
  · obtain ⟨u1, u2, rfl, r1, r2⟩ := vals2 r
    cases (show u1 = Value.ref f from r1)
    cases (show u2 = Value.ref tp from r2)
    obtain ⟨_, its, rv, o, h1, h2, n, h3⟩ := (show ObjOk X.prog X.w H s.heap tp (.tup cs) from I.hok tp _ hT)
    have e3 := ClsV.all k rv
    subst e3
    obtain ⟨od, fd, sl, ho⟩ := l.fn I.hok
    obtain ⟨ocl, odd, odt, osl⟩ := o
    cases (show ocl = _ from h2)
    cases (show odt = _ from h3)
    exact PySem.W.kia_tup kit_fn I.kIn ⟨_, ho, rfl⟩ h1 e (fun z => nomatch z) fun tk => ⟨.bl b, H, I.tok tk, rfl, q⟩
  · exact call_isiT pins s σ H xs us Q I r h
/-- x == 'z', x != 'z': x a text or a lambda -/
def rEqP (F : LF) (ne : Bool) : R2 := fun x y H Q => ∃ z, y = .str z ∧ ((∃ a, x = .str a ∧ Q (.bl (if ne then !decide (V.str a = .str z) else decide (V.str a = .str z))) H) ∨ ∃ f, x = .ref f ∧ LamAt H f F ∧ Q (.bl ne) H)
theorem op_eqP {F : LF} (hu : X.A.units < cLine) : OpR X (compareOp .Eq) (rEqP F false) := by
  rintro pins s σ H x y v u Q I rx ry ⟨z, rfl, ⟨a, rfl, q⟩ | ⟨f, rfl, l, q⟩⟩
  · exact op_eq pins s σ H _ _ v u Q I rx ry ⟨rfl, q⟩
  · cases (show v = Value.ref f from rx)
    obtain ⟨t, rfl⟩ := (show ∃ t, u = Value.str z t from ry)
    obtain ⟨od, fd, sl, ho⟩ := l.fn I.hok
    exact Fnc.fn_eq_str ho hu ⟨.bl false, H, I, rfl, q⟩
theorem op_neP {F : LF} (hu : X.A.units + 1 < cLine) : OpR X (compareOp .NotEq) (rEqP F true) := by
  rintro pins s σ H x y v u Q I rx ry ⟨z, rfl, ⟨a, rfl, q⟩ | ⟨f, rfl, l, q⟩⟩
  · exact op_ne pins s σ H _ _ v u Q I rx ry ⟨rfl, q⟩
  · cases (show v = Value.ref f from rx)
    obtain ⟨t, rfl⟩ := (show ∃ t, u = Value.str z t from ry)
    obtain ⟨od, fd, sl, ho⟩ := l.fn I.hok
    exact Fnc.fn_ne_str ho hu ⟨.bl true, H, I, rfl, q⟩
end
/-- what a call of the lambda gives: a contract -/
def LOk (P : Program) (w : World) (K : PySem.W.Frag) (mg : Str → Option Value) (base : Heap) (k : Nat) (F : LF) (sp : List V → Hp → VK → Prop) : Prop :=
  ∀ (A : Around) (outer : List Env) (s : Shared) (H : Hp) (us : List Value) (vs : List V) (f : Addr) (Q : VK), Room k A → Env0 P w K mg base A outer s H → LamAt H f F → Vals vs us → sp vs H Q → codeAny (model P w) A (.call (.ref f) ⟨us, []⟩) (CR C8.CX0 outer P w H s Q C8.E0) s
theorem lok_of {P : Program} {w : World} {K : PySem.W.Frag} {mg : Str → Option Value} {base : Heap} {k : Nat} {F : LF} {N ps : List Str} {t : TE} {sp : List V → Hp → VK → Prop} (S : FnScope N ps F.scope) (hl : ∀ vs H Q, sp vs H Q → vs.length = ps.length)
    (hb : ∀ (pm cv ctv : Value) (us : List Value), us.length = ps.length → bindArgs (PySem.W.kla_fn "<lambda>" F.q F.params F.body F.scope [] pm cv ctv) ⟨us, []⟩ = pure (ps.zip us))
    (hbody : ∀ (f c : Addr) (A : Around) (outer : List Env) (s : Shared) (H : Hp), Room k (A.deeper (envOfC F.q F.scope s.heap.objs.size f (.ref c))) → PE (cxOf C8.CX0 P w K mg base N F.q F.scope f (.ref c) A outer s H C8.E0) F.body t) (ht : ∀ vs H Q, sp vs H Q → t (L2.start N vs) H Q) :
    LOk P w K mg base (k + 1) F sp := by
  intro A outer s H us vs f Q hr e0 l r hs
  have lim : s.heap.NoLimit := e0.mod.nolimit.keeps fun b o e => (e0.bs b o e).1
  obtain ⟨c, hf, hc⟩ := l
  obtain ⟨⟨pm, ctv, of⟩, _, _⟩ := e0.hok f _ hf
  have len := hl _ _ _ hs
  refine PySem.W.kla_callFunE hr.depth of rfl S.co S.gen rfl (NdefX.codeO_at e0.hok hc) ?_
  rw [hb pm (.ref c) ctv us (by rw [← r.length]; exact len)]
  refine wpAny_pure (wpAny_newFunctionEnv_cells S.kind (fun ⟨n, v⟩ hy => (S.par n (List.of_mem_zip hy).1).imp id fun z => ⟨z, PySem.W.cellsFrom_some _ _ _ (.inl z)⟩) fun env he s1 x => ?_)
  subst he
  refine ⟨lim.keeps x.toInCall.keep, PySem.W.kla_codeExpr (wpAny_mono ((hbody f c A outer s H (hr.deeper _)).run [] s1 (L2.start N vs) H _ (inv_start S hr.hd e0 len r x) (ht _ _ _ hs)) (fun v s' ⟨y, H', J, rv, z⟩ => ⟨y, H', J.os, J.bare, J.base, J.hok, rv, z⟩) fun _ _ z => z)⟩
def tCallF (F : LF) (i : Nat) (sp : List V → Hp → VK → Prop) (ta : TA) : TE := fun σ H Q => ∃ f, σ[i]? = some (some (.ref f)) ∧ LamAt H f F ∧ ta σ H fun vs H1 => LamAt H1 f F ∧ sp vs H1 Q
section
variable {X : Cx}
theorem pe_callF {F : LF} {sp : List V → Hp → VK → Prop} {i j k : Nat} {x : Str} {ta : TA} {e : Expr} {es : List Expr} {p pos : Pos} (Fn : LOk X.prog X.w X.K X.mg X.base k F sp) (hr : Room j X.A) (hk : k ≤ j) (hN : X.N[i]? = some x) (hv : Vis X.env.scope x) (ha : PA X (e :: es) ta)
    (hd : (x == ("__debug__" : Str)) = false := by decide) (hcd : (x == ("__classdict__" : Str)) = false := by decide)
    (he : starEach (e :: es) X.env = (false, eval e X.env) :: starEach es X.env := by rfl) (hpl : (backTo pos (starEach es X.env)).any (·.1) = false := by rfl) :
    PE X (.Call (.Name x p) (e :: es) [] pos) (tCallF F i sp ta) := by
  refine ⟨fun pins s σ H Q I ⟨f, hs, hf, ht⟩ => ?_⟩
  have fnAt : ∀ {σ : L2.St} {H : Hp} {s : Shared}, Inv X pins σ H s → LamAt H f F → PySem.W.FnAt f s.heap := fun I l => by
    obtain ⟨od, fd, sl, ho⟩ := l.fn I.hok
    exact ⟨_, od, _, sl, ho⟩
  refine wpAny_Call_Name_kw (thn ((pe_var (pos := p) hN hv hd hcd).run pins s σ H (fun v H1 => v = .ref f ∧ H1 = H) I ⟨.ref f, hs, rfl, rfl⟩) fun u s1 ⟨v, H1, I1, r1, ev, eH⟩ => ?_)
  subst ev eH
  cases (show u = Value.ref f from r1)
  refine PySem.W.callWith_F (first := []) (fnAt I1 hf) (thn (ha.run pos pins s1 σ _ _ I1 ht) fun us s2 ⟨vs, H2, I2, r, l2, q⟩ => ⟨fnAt I2 l2, wpAny_call (codeAny_mono (Fn X.A X.stack s2 H2 us vs f Q (hr.mono hk) I2.env0 l2 r q) fun rr s3 hq => ?_)⟩) he hpl
  cases rr with
  | error e => exact (show False from hq).elim
  | ok fl =>
    cases fl with
    | ret u => exact I2.after hq
    | next => exact False.elim hq
    | brk => exact False.elim hq
    | cont => exact False.elim hq
end
end Lf
/-! x in xs, x not in xs: instances with their own ==, one of which may be equal. -/
namespace Io
open PySem PySem.SeqAt
open AutoSeq1 (wpAny_loadPart')
open MeetsSeq MeetsSeq2 MeetsSeq3 SeqRoads2
section
variable {prog : Program} {w : World} {A : Around} {R : Result → Shared → Prop}
/-- a turn finds x (G), or goes on -/
def Seek (prog : Program) (w : World) (A : Around) (E : Value → Shared → Prop) (l : Addr) (x : Value) (N : Nat) (I : Nat → Shared → Prop) (G : Shared → Prop) : Prop :=
  ∀ i s, I i s → ∃ (xs : Array Value) (n : Nat), s.heap.get? l = some { cls := .type "list", data := .seq xs n } ∧ xs.size = N ∧
    ∀ (h1 : i < xs.size), wpAny (model prog w) A.in1 (eqBool xs[i] x) (fun r s' => (r = true ∧ G s') ∨ (r = false ∧ I (i + 1) s')) E s
theorem seek (l : Addr) (x : Value) (N : Nat) (I : Nat → Shared → Prop) (G : Shared → Prop) (hl : Seek prog w A (fun e s' => R (.error e) s') l x N I G) (no : ∀ s, I N s → R (.ok (.ret (.bool false))) s) (yes : ∀ s, G s → R (.ok (.ret (.bool true))) s) :
    ∀ (k i : Nat), i + k = N → ∀ s, I i s → wpAny (model prog w) A.in1 (Builtin.«list.__contains__.loop» ⟨[.ref l, x, rawInt i], []⟩) (GQ.FinOf prog w A R) (fun e s' => R (.error e) s') s
  | k, i, hk, s, h => by
    obtain ⟨xs, n, h1, z1, turn⟩ := hl _ _ h
    have hR := no s
    cases k with
    | zero =>
      obtain rfl : i = N := hk
      have hR := hR h
      obtain ⟨hp, g, d, tk, os⟩ := s
      wp_walk using wpAny_loadPart' h1
      rw [show xs[((i : Nat) : Int).toNat]? = none by simp [z1]]
      wp_walk using wpAny_loadPart' h1
      exact hR
    | succ k =>
      have a1 : i < xs.size := by omega
      have ht := turn a1
      obtain ⟨hp, g, d, tk, os⟩ := s
      wp_walk using wpAny_loadPart' h1
      rw [show xs[((i : Nat) : Int).toNat]? = some xs[i] by simp [a1]]
      refine wpAny_bind (wpAny_mono ht (fun r s2 q => ?_) fun _ _ x => x)
      rcases q with ⟨rfl, q⟩ | ⟨rfl, q⟩
      · have hY := yes s2 q
        obtain ⟨hp2, g2, d2, tk2, os2⟩ := s2
        wp_walk
        exact hY
      · have rec_ := seek l x N I G hl no yes k (i + 1) (by omega) s2 q
        obtain ⟨hp2, g2, d2, tk2, os2⟩ := s2
        wp_walk
        rw [show ((i : Int) + 1) = ((i + 1 : Nat) : Int) by omega]
        exact ⟨plainId_quiet plain_contains_loop _, codeAny_builtin entry_contains_loop (by rw [Around.under_plainId plain_contains_loop _]; exact rec_)⟩
theorem seek_list (l : Addr) (x : Value) (N : Nat) (I : Nat → Shared → Prop) (G : Shared → Prop) (hl : Seek prog w A (fun e s' => R (.error e) s') l x N I G) (no : ∀ s, I N s → R (.ok (.ret (.bool false))) s) (yes : ∀ s, G s → R (.ok (.ret (.bool true))) s) {s : Shared} (h : I 0 s) :
    wpAny (model prog w) A.in1 (Builtin.«list.__contains__» ⟨[.ref l, x], []⟩) (GQ.FinOf prog w A R) (fun e s' => R (.error e) s') s := by
  obtain ⟨xs, n, h1, z1, _⟩ := hl _ _ h
  have rec_ := seek l x N I G hl no yes N 0 (by omega) s h
  obtain ⟨hp, g, d, tk, os⟩ := s
  wp_walk using wpAny_loadPart' h1
  exact ⟨plainId_quiet plain_contains_loop _, codeAny_builtin entry_contains_loop (by rw [Around.under_plainId plain_contains_loop _]; exact rec_)⟩
end
theorem holds_in {prog : Program} {w : World} {A : Around} {E : Value → Shared → Prop} {s : Shared} {l : Addr} {x : Value} {N : Nat} {Q : Bool → Shared → Prop} (I : Nat → Shared → Prop) (G : Shared → Prop) (hl : Seek prog w A E l x N I G)
    (no : ∀ s, I N s → Q false s) (yes : ∀ s, G s → Q true s) (h : I 0 s) : wpAny (model prog w) A (contains (.ref l) x) Q E s := by
  obtain ⟨xs, n, h1, _, _⟩ := hl _ _ h
  refine wpAny_contains_slot ⟨_, h1, rfl⟩ F.slot_list_contains (wpAny_mono (GQ.call_here F.slot_list_contains ⟨_, h1, rfl⟩ F.entry_list_contains (F.args_list_contains_2 _ _) (seek_list (R := wants (fun v s' => ∃ b, v = .bool b ∧ Q b s') E) l x N I G hl (fun s' q => ⟨false, rfl, no s' q⟩) (fun s' q => ⟨true, rfl, yes s' q⟩) h)) (fun v s1 hv => ?_) fun _ _ z => z)
  obtain ⟨b, rfl, hq⟩ := hv
  exact wpAny_truthy_bool hq
end Io
namespace Io
open PySem PySem.Spec PyProof.Rows L2
section
variable {X : Cx} {CX : CXT} {k : Nat} {C f : Addr} {fd : FuncData} {ps : List Str} {sp : Sp} {E : XK}
/-- which items are equal to the one at a: bs -/
def rInOwn (C : Addr) (sp : Sp) (E : XK) (ng : Bool) : R2 := fun x y H Q => ∃ (a : Addr) (da : Addr) (fa : List (Str × V)) (l : Addr) (as : List Addr) (bs : List Bool), x = .ref a ∧ y = .ref l ∧ H a = some (.ins C da fa) ∧ H l = some (.lst (as.map V.ref)) ∧ as.length = bs.length ∧
  (∀ (i : Nat) (b : Addr) (t : Bool), as[i]? = some b → bs[i]? = some t → (∃ dx fs, H b = some (.ins C dx fs)) ∧ (b = a → t = true) ∧ ∀ H1, Ext H H1 → sp [.ref b, .ref a] H1 (fun v H2 => v = .bl t ∧ Ext H1 H2) E) ∧ ∀ H', Ext H H' → Q (.bl (if ng then !bs.any id else bs.any id)) H'
theorem in_own (F : FnOk X.prog X.w X.K X.mg X.base CX k f fd ps sp) (hr : Room (k + 1) X.A) (hn : PySem.W.notFirst X.K C (.ref C) = true) (hs : PySem.W.findIn X.K (.ref C) "__eq__" = some (some (.ref f))) (hf : PySem.W.isFn X.K (.ref f) = true) (hb : Binds X.K fd ps []) (hx : Passes CX X E)
    {pins : List (Addr × Obj)} {σ : L2.St} {H : Hp} {s : Shared} {a da l : Addr} {fa : List (Str × V)} {as : List Addr} {bs : List Bool} {Q : Bool → Shared → Prop} (I : Inv X pins σ H s) (ha : H a = some (.ins C da fa)) (hl : H l = some (.lst (as.map V.ref))) (len : as.length = bs.length)
    (hp : ∀ (i : Nat) (b : Addr) (t : Bool), as[i]? = some b → bs[i]? = some t → (∃ dx fs, H b = some (.ins C dx fs)) ∧ (b = a → t = true) ∧ ∀ H1, Ext H H1 → sp [.ref b, .ref a] H1 (fun v H2 => v = .bl t ∧ Ext H1 H2) E)
    (q : ∀ H' s', Ext H H' → Inv X pins σ H' s' → Q (bs.any id) s') : wpAny (model X.prog X.w) X.A (contains (.ref l) (.ref a)) Q X.xe s := by
  refine holds_in (N := bs.length) (fun i s' => LoopI X pins σ H s' ∧ (bs.take i).any id = false) (fun s' => LoopI X pins σ H s' ∧ bs.any id = true) (fun i s' z => ?_) (fun s' z => ?_) (fun s' z => ?_) ⟨⟨H, I, Ext.rfl'⟩, rfl⟩
  · obtain ⟨⟨H1, I1, e1⟩, hno⟩ := z
    obtain ⟨y1, its, n, r, e⟩ := I1.hok l _ (e1 _ _ hl)
    have rl := r.length
    rw [List.length_map] at rl
    refine ⟨its.toArray, n, e, by rw [List.size_toArray, ← rl, len], fun h1 => ?_⟩
    have h1' : i < its.length := by simpa using h1
    have k1 : i < as.length := by rw [rl]; exact h1'
    have k2 : i < bs.length := by rw [← len]; exact k1
    have gb : bs[i]? = some bs[i] := List.getElem?_eq_getElem k2
    obtain ⟨⟨dx, fs, hz⟩, hid, hsp⟩ := hp i as[i] bs[i] (List.getElem?_eq_getElem k1) gb
    have sp1 := hsp H1 e1
    have tk : (bs.take (i + 1)).any id = ((bs.take i).any id || bs[i]) := by
      rw [List.take_succ, gb, List.any_append]
      simp
    have won : bs[i] = true → bs.any id = true := fun z => List.any_eq_true.mpr ⟨_, List.getElem_mem k2, z⟩
    obtain ⟨t, ht, rt⟩ := r.get (i := i) (x := .ref as[i]) (by rw [List.getElem?_map, List.getElem?_eq_getElem k1]; rfl)
    have g1 : its[i]? = some its.toArray[i] := by rw [List.getElem?_eq_getElem h1'] <;> simp
    rw [g1] at ht
    rw [Option.some.inj ht]
    obtain rfl : t = Value.ref as[i] := rt
    unfold eqBool
    refine wpAny_holding ?_
    refine wpAny_ite_split (fun hab => ?_) (fun _ => ?_)
    · have e2 : as[i] = a := by
        have := eq_of_beq hab
        cases this
        rfl
      exact wpAny_bind (wpAny_rule (wpAny_pure (.inl ⟨rfl, ⟨H1, I1, e1⟩, won (hid e2)⟩)))
    · have hz1 := e1 _ _ hz
      obtain ⟨mA, J, _⟩ := ins_get I1.hok hz1
      obtain ⟨od, J, _⟩ := J.look
      obtain ⟨m, hF⟩ := I1.fr
      obtain ⟨mA2, J2, _⟩ := ins_get I1.hok (e1 _ _ ha)
      obtain ⟨od2, J2, _⟩ := J2.look
      have hr1 : Room k X.A.in1 := hr.in1
      refine wpAny_bind (PySem.W.cmp_K (op := .Eq) (tb := .ref C) hr1.units0 hF I1.ok.mod.kin J J2.type hn hs hf (wpAny_mono (Ow.run_own F hr1 I1.env0.in1 hb hx I1 (vs := [.ref as[i], .ref a]) (.cons rfl (.cons rfl .nil)) sp1) (fun w s2 hq => ?_) fun _ _ z => z))
      obtain ⟨z, H2, I2, rw', rfl, e2⟩ := hq
      cases rw'
      refine wpAny_truthy_bool ?_
      cases hbi : bs[i] with
      | true => exact .inl ⟨rfl, ⟨H2, I2, e1.trans e2⟩, won hbi⟩
      | false => exact .inr ⟨rfl, ⟨H2, I2, e1.trans e2⟩, by rw [tk, hno, hbi]; rfl⟩
  · obtain ⟨⟨H1, I1, e1⟩, hno⟩ := z
    rw [List.take_length] at hno
    rw [← hno]
    exact q H1 s' e1 I1
  · obtain ⟨⟨H1, I1, e1⟩, hy⟩ := z
    rw [← hy]
    exact q H1 s' e1 I1
theorem op_inOwn {ng : Bool} (F : FnOk X.prog X.w X.K X.mg X.base CX k f fd ps sp) (hr : Room (k + 1) X.A) (hn : PySem.W.notFirst X.K C (.ref C) = true) (hs : PySem.W.findIn X.K (.ref C) "__eq__" = some (some (.ref f))) (hf : PySem.W.isFn X.K (.ref f) = true) (hb : Binds X.K fd ps []) (hx : Passes CX X E) :
    OpR X (compareOp (if ng then .NotIn else .In)) (rInOwn C sp E ng) := by
  rintro pins s σ H x y v u Q I rx ry ⟨a, da, fa, l, as, bs, rfl, rfl, ha, hl, len, hp, q⟩
  obtain rfl : v = Value.ref a := rx
  obtain rfl : u = Value.ref l := ry
  cases ng with
  | false => exact wpAny_bind (in_own F hr hn hs hf hb hx I ha hl len hp fun H' s' e I' => wpAny_pure ⟨.bl (bs.any id), H', I', rfl, q H' e⟩)
  | true => exact wpAny_bind (in_own F hr hn hs hf hb hx I ha hl len hp fun H' s' e I' => wpAny_pure ⟨.bl (!bs.any id), H', I', rfl, q H' e⟩)
end
end Io
/-! Spaces whose policy is a word or a lambda. -/
namespace Sc
open PySem L2 LamX Lf
def pkFn (ix : Nat → Nat) (L : List Pr) (_ _ : Int) : Option Int := (L[ix L.length]?).map (·.1)
theorem fit_fn {ix : Nat → Nat} : Fit (pkFn ix) := fun L s mk c bd s1 _ h => by
  unfold pkFn at h
  cases e : L[ix L.length]? with
  | none =>
    rw [e] at h
    cases h
  | some x =>
    rw [e] at h
    cases h
    have hx := List.mem_of_getElem? e
    have := bd x hx
    exact ⟨x, hx, Int.le_refl _, by show x.1 + s ≤ x.1 + x.2; omega⟩
def PolA (F : LF) (ix : Nat → Nat) (H : Hp) (pol : V) (z : Str) (pk : List Pr → Int → Int → Option Int) : Prop := (pol = .str z ∧ Pol5 z pk) ∨ ∃ f, pol = .ref f ∧ LamAt H f F ∧ z = "fn" ∧ pk = pkFn ix
/-- what is known by its object alone stays -/
def Exts (H H' : Hp) : Prop := ∀ q φ, H q = some (.ext φ) → H' q = some (.ext φ)
theorem lam_stay {H H' : Hp} {f : Addr} {F : LF} (l : LamAt H f F) (k : Exts H H') : LamAt H' f F := by
  obtain ⟨c, h1, h2⟩ := l
  exact ⟨c, k _ _ h1, k _ _ h2⟩
theorem exts_same {H H' : Hp} (k : Same H H') : Exts H H' := fun q φ e => k _ _ e
theorem exts_ext {H H' : Hp} (k : ExtN H H') : Exts H H' := fun q φ e => k _ _ e (fun ps z => by cases z)
theorem exts_put {H H' : Hp} {a d : Addr} {oa od : HO} (ha : H a = some oa) (hd : H d = some od) (na : ∀ φ, oa ≠ .ext φ) (nd : ∀ φ, od ≠ .ext φ) (k : putT a d H H') : Exts H H' := fun q φ e =>
  k q _ (fun z => by rw [z, ha] at e; exact na φ (Option.some.inj e)) (fun z => by rw [z, hd] at e; exact nd φ (Option.some.inj e)) (fun ps z => by cases z) e
theorem Exts.trans {H H1 H2 : Hp} (a : Exts H H1) (b : Exts H1 H2) : Exts H H2 := fun q φ e => b _ _ (a _ _ e)
section
variable {F : LF} {ix : Nat → Nat} {H H' : Hp} {pol : V} {z : Str} {pk : List Pr → Int → Int → Option Int}
theorem PolA.stay (p : PolA F ix H pol z pk) (k : Exts H H') : PolA F ix H' pol z pk := p.imp id fun ⟨f, h1, h2, h3⟩ => ⟨f, h1, lam_stay h2 k, h3⟩
theorem PolA.fit (p : PolA F ix H pol z pk) : Fit pk := by
  rcases p with ⟨_, h⟩ | ⟨_, _, _, _, rfl⟩
  · exact h.fit
  · exact fit_fn
theorem PolA.pv (p : PolA F ix H pol z pk) : PolV F H pol := by
  rcases p with ⟨rfl, _⟩ | ⟨f, rfl, h, _⟩
  · exact .inl ⟨_, rfl⟩
  · exact .inr ⟨f, rfl, h⟩
end
def spSInitA (S : Addr) (F : LF) : Sp := fun vs H Q _ => ∃ (p dx : Addr) (n : Int) (pol : V), vs = [.ref p, .int n, pol] ∧ H p = some (.ins S dx []) ∧ ((∃ z, pol = .str z ∧ isPol z = true) ∨ ∃ f, pol = .ref f ∧ LamAt H f F) ∧
  ∀ H' d, (∀ q o, q ≠ p → H q = some o → H' q = some o) → H d = none → d ≠ p → H' d = some (.dK (kvI [])) → SpAt S H' p n pol 0 d → Q .non H'
def spOccA (C S : Addr) (F : LF) : Sp := fun vs H Q _ => ∃ (a r d : Addr) (n mk f m : Int) (pol : V) (ts : List Pr), vs = [.ref a, .ref r] ∧ SpAt S H a n pol mk d ∧ PolV F H pol ∧ H d = some (.dK (kvI ts)) ∧ RunAt C H r f m ∧ (∀ x ∈ ts, x.1 ≠ f) ∧ ts.length < 1000 ∧
  ∀ H', putS a d H H' → H' d = some (.dK (kvI (ts ++ [(f, m)]))) → SpAt S H' a n pol (if pol = .str "next" then f + m else mk) d → Q .non H'
/-- what a call of the policy gives -/
def spL (C : Addr) (ix : Nat → Nat) : List V → Hp → VK → Prop := fun vs H Q => ∃ (l : Addr) (m : Int) (as : List Addr) (L : List Pr), vs = [.ref l, .int m] ∧ H l = some (.lst (as.map V.ref)) ∧ RunsAt C H as L ∧ L ≠ [] ∧ L.length ≤ 64 ∧ ∀ a, as[ix L.length]? = some a → Q (.ref a) H
def spAskF (C S : Addr) (F : LF) (ix : Nat → Nat) : Sp := fun vs H Q _ => ∃ (a d fl : Addr) (n mk m : Int) (ts : List Pr), vs = [.ref a, .int m] ∧ SpAt S H a n (.ref fl) mk d ∧ LamAt H fl F ∧ H d = some (.dK (kvI ts)) ∧ Sm.Tk n ts ∧ ts.length < 64 ∧ 1 ≤ n ∧ n ≤ 1000 ∧ 1 ≤ m ∧ m ≤ 1000 ∧ 0 ≤ mk ∧
  ∀ L, Sm.HL n ts L → (∀ c, ans (pkFn ix) L m mk = some c → ∀ H' r, Same H H' → H r = none → RunAt C H' r c m → Q (.ref r) H') ∧ (ans (pkFn ix) L m mk = none → ∀ H', Same H H' → Q .non H')
/-- the class's own == -/
structure EqM (P : Program) (w : World) (K : PySem.W.Frag) (mg : Str → Option Value) (base : Heap) (C f : Addr) (fd : FuncData) : Prop where
  ok : FnOk P w K mg base CX0 1 f fd ["self", "other"] (spEqA K C)
  at_ : PySem.W.findIn K (.ref C) "__eq__" = some (some (.ref f))
  fn : PySem.W.isFn K (.ref f) = true
  bd : Binds K fd ["self", "other"] []
  nf : PySem.W.notFirst K C (.ref C) = true
def spAnsU (Ts : Tl) (C : Addr) : Sp := fun vs H Q E => ∃ z pk, Pol5 z pk ∧ spAnsT Ts C z pk vs H Q E
def spChooseA (Ts : Tl) (C S CN : Addr) (F : LF) (ix : Nat → Nat) : Sp := fun vs H Q E => ∃ (a d : Addr) (n mk m : Int) (pol : V) (z : Str) (pk : List Pr → Int → Int → Option Int) (ts : List Pr), vs = [.ref a, .int m] ∧ SpAt S H a n pol mk d ∧ PolA F ix H pol z pk ∧ H d = some (.dK (kvI ts)) ∧ Sm.Tk n ts ∧ ts.length < 64 ∧ 1 ≤ n ∧ n ≤ 1000 ∧ 1 ≤ m ∧ m ≤ 1000 ∧ (z = "halves" → m ≤ 500) ∧ 0 ≤ mk ∧ mk ≤ 1000 ∧ Tabs Ts H ∧
  ∀ L s, Sm.HL n ts L → szOk z s m → 1 ≤ s → s ≤ 1000 → (∀ c, ans pk L s mk = some c → ∀ H' r, ExtN H H' → Tabs Ts H' → NewT H r → RunAt C H' r c s → Q (.ref r) H') ∧ (ans pk L s mk = none → GoneT Ts CN m H E)
def spTakeA (Ts : Tl) (C S CN : Addr) (F : LF) (ix : Nat → Nat) : Sp := fun vs H Q E => ∃ (a d : Addr) (n mk m : Int) (pol : V) (z : Str) (pk : List Pr → Int → Int → Option Int) (ts : List Pr), vs = [.ref a, .int m] ∧ SpAt S H a n pol mk d ∧ PolA F ix H pol z pk ∧ H d = some (.dK (kvI ts)) ∧ Sm.Tk n ts ∧ ts.length < 64 ∧ 1 ≤ n ∧ n ≤ 1000 ∧ 1 ≤ m ∧ m ≤ 1000 ∧ (z = "halves" → m ≤ 500) ∧ 0 ≤ mk ∧ mk ≤ 1000 ∧ Tabs Ts H ∧
  ∀ L s, Sm.HL n ts L → szOk z s m → 1 ≤ s → s ≤ 1000 → (∀ c, ans pk L s mk = some c → ∀ H' r, putT a d H H' → Tabs Ts H' → NewT H r → RunAt C H' r c s → H' d = some (.dK (kvI (ts ++ [(c, s)]))) → SpAt S H' a n pol (if pol = .str "next" then c + s else mk) d → Q (.ref r) H') ∧ (ans pk L s mk = none → GoneT Ts CN m H E)
section
variable {P : Program} {w : World} {K : PySem.W.Frag} {mg : Str → Option Value} {base : Heap} {C S CN : Addr} {mc : Value} {tM : Tok} {Ts : Tl} {FL : LF} {ix : Nat → Nat}
theorem ok_sinitA {f : Addr} {fd : FuncData} {dvs : List V} (F : FunD K "__init__" "Space.__init__" (defArgs s_Space___init__) (defBody s_Space___init__) (defScope s_Space___init__) dvs [] f fd) (T : TR K mg C mc tM) (U : TS K mg S) (hp : PolAt K mg) : FnOk P w K mg base CX0 1 f fd ["self", "pages", "policy"] (spSInitA S FL) := by
  refine F.ok scSInit (fun vs H Q E h => ?_) (fun cdv A outer s H vs Q E hr h => ?_)
  · obtain ⟨p, dx, n, z, rfl, _⟩ := h
    rfl
  · obtain ⟨p, dx, n, pol, rfl, ep, hz, k⟩ := h
    obtain ⟨tp, mt, sq⟩ := hp
    refine ⟨_, C8.pss_cut (ps_if (PW.pt (pw_or (pt_cmpR op_isN (pv 2) pe_non (nomark _)) (pw_or1 (PW.pt (pw_and (pt_val (pe_callB (call_isiTP (F := FL)) (by rfl) T.isi (by decide +kernel) (pa_cons (pv 2) (pa_cons (pe_tup (pa_cons (pe_bltn (v := .ty "int") (by rfl) T.int (by decide +kernel) rfl) (pa_cons (pe_bltn (v := .ty "str") (by rfl) U.str (by decide +kernel) rfl) (pa_cons (pe_bltn (v := .ty "list") (by rfl) U.list (by decide +kernel) rfl) (pa_cons (pe_bltn (v := .ty "tuple") (by rfl) U.tuple (by decide +kernel) rfl) pa_nil))))) pa_nil))))
        (pw_and1 (pt_cmpR op_notIn_seq (pv 2) (pe_glob (v := .ref tp) rfl mt rfl) (by rfl)))))))) (pss_one ps_never) pss_nil)
      (pss_cons (ps_fld (pv 0) (pv 1) rfl) (pss_cons (ps_fld (pv 0) (pv 2) rfl) (pss_cons (ps_fld (pv 0) pe_int rfl) (pss_one (ps_fld (pv 0) pe_dnewK rfl))))), ?_⟩
    refine ⟨fun σ H' => σ = [some (.ref p), some (.int n), some pol] ∧ ∃ t, H t = none ∧ H' = upd H t (.tup [.ty "int", .ty "str", .ty "list", .ty "tuple"]), ?_, ?_⟩
    · have hN : pol ≠ .non := by rcases hz with ⟨z, rfl, _⟩ | ⟨f, rfl, _⟩ <;> exact fun q => by cases q
      refine ⟨_, rfl, rfl, false, ?_, iteF ?_⟩
      · rw [decide_eq_false hN]
      refine ⟨_, rfl, (by show 4 ≤ sizeLine; decide), fun t nt => ?_⟩
      have s0 := put_same (o := .tup [.ty "int", .ty "str", .ty "list", .ty "tuple"]) nt
      have cl : Paired ClsV [.ty "int", .ty "str", .ty "list", .ty "tuple"] [.type "int", .type "str", .type "list", .type "tuple"] := .cons (.ty "int") (.cons (.ty "str") (.cons (.ty "list") (.cons (.ty "tuple") .nil)))
      rcases hz with ⟨z, rfl, hz⟩ | ⟨f, rfl, hl⟩
      · refine .inr ⟨.str z, t, _, .type "str", _, true, rfl, upd_same, cl, .base (.str z), ?_, true, rfl, iteT ?_⟩
        · exact kitAny_cons (b := false) (kit_ty (by decide +kernel)) (fun _ => kitAny_cons (b := true) (r := true) (kit_ty (by decide +kernel)) (fun z => by cases z) fun _ => rfl) fun z => by cases z
        refine ⟨_, rfl, tp, five, rfl, .inr (sq _), rfl, rfl, false, ?_, iteF ⟨rfl, t, nt, rfl⟩⟩
        show V.bl (!isPol z) = _
        rw [hz]
        rfl
      · refine .inl ⟨f, t, _, _, false, rfl, lam_stay hl (exts_same s0), upd_same, cl, ?_, false, rfl, iteF ⟨rfl, t, nt, rfl⟩⟩
        exact kitAny_cons (b := false) (kit_ty (by decide +kernel)) (fun _ => kitAny_cons (b := false) (kit_ty (by decide +kernel)) (fun _ => kitAny_cons (b := false) (kit_ty (by decide +kernel)) (fun _ => kitAny_cons (b := false) (kit_ty (by decide +kernel)) (fun _ => rfl) fun z => by cases z) fun z => by cases z) fun z => by cases z) fun z => by cases z
    rintro _ _ ⟨rfl, t, nt, rfl⟩
    have s0 := put_same (o := .tup [.ty "int", .ty "str", .ty "list", .ty "tuple"]) nt
    have e0 := s0 _ _ ep
    have n1 : ¬ (("_policy" : Str) = "_pages") := by decide +kernel
    have n2 : ¬ (("_mark" : Str) = "_pages") := by decide +kernel
    have n3 : ¬ (("_mark" : Str) = "_policy") := by decide +kernel
    have n4 : ¬ (("_taken" : Str) = "_pages") := by decide +kernel
    have n5 : ¬ (("_taken" : Str) = "_policy") := by decide +kernel
    have n6 : ¬ (("_taken" : Str) = "_mark") := by decide +kernel
    refine ⟨_, rfl, _, rfl, p, S, dx, [], rfl, e0, U.cl, U.nP, (by show 0 < 1000; decide), ?_⟩
    refine ⟨_, rfl, _, rfl, p, S, dx, _, rfl, upd_same, U.cl, U.nQ, (by show 1 < 1000; decide), ?_⟩
    refine ⟨_, rfl, p, S, dx, _, rfl, upd_same, U.cl, U.nM, (by show 2 < 1000; decide), fun d nd => ?_⟩
    rw [upd_upd, upd_upd] at nd ⊢
    have dp : d ≠ p := fun q => by rw [q, upd_same] at nd; cases nd
    have nd1 : (upd H t (HO.tup [.ty "int", .ty "str", .ty "list", .ty "tuple"])) d = none := by rw [upd_ne dp] at nd; exact nd
    have dt : d ≠ t := fun q => by rw [q, upd_same] at nd1; cases nd1
    have nd0 : H d = none := by rw [upd_ne dt] at nd1; exact nd1
    refine ⟨_, rfl, p, S, dx, _, rfl, by rw [upd_ne (Ne.symm dp), upd_same], U.cl, U.nT, (by show 3 < 1000; decide), ?_⟩
    refine k _ d (fun q o qp e => ?_) nd0 dp (by rw [upd_ne dp, upd_same]; rfl) ⟨dx, _, upd_same, ?_, ?_, ?_, ?_, (by show 4 < 900; decide), fun x x1 x2 x3 x4 => ?_⟩
    · rw [upd_ne qp, upd_ne (fun z => by rw [z, nd0] at e; cases e), upd_ne qp]
      exact s0 _ _ e
    · rw [lookup_putF, if_neg (fun z => n4 z.symm), lookup_putF, if_neg (fun z => n2 z.symm), lookup_putF, if_neg (fun z => n1 z.symm), lookup_putF, if_pos rfl]
    · rw [lookup_putF, if_neg (fun z => n5 z.symm), lookup_putF, if_neg (fun z => n3 z.symm), lookup_putF, if_pos rfl]
    · rw [lookup_putF, if_neg (fun z => n6 z.symm), lookup_putF, if_pos rfl]
    · rw [lookup_putF, if_pos rfl]
    · rw [lookup_putF, if_neg x4, lookup_putF, if_neg x3, lookup_putF, if_neg x2, lookup_putF, if_neg x1]
      rfl
theorem ok_occA {f fE pp : Addr} {fd fdE : FuncData} (F : Fun K "occupy" "Space.occupy" s_Space_occupy f fd) (T : TR K mg C mc tM) (U : TS K mg S) (GE : FnOk P w K mg base CX0 1 fE fdE ["self"] (spEnd C)) (bE : Binds K fdE ["self"] []) (pE : PropOf K C "end" pp fE) : FnOk P w K mg base CX0 3 f fd ["self", "run"] (spOccA C S FL) := by
  refine F.ok scOcc (fun vs H Q E h => ?_) (fun cdv A outer s H vs Q E hr h => ?_)
  · obtain ⟨a, r, d, n, mk, f, m, z, ts, rfl, _⟩ := h
    rfl
  · obtain ⟨a, r, d, n, mk, f, m, pol, ts, rfl, sp, hP, hd, ⟨dr, er⟩, hf, hl, k⟩ := h
    obtain ⟨dx, fs, ha, p1, p2, p3, p4, p5, p6⟩ := id sp
    have hu := hu_of hr
    refine ⟨_, pss_cons (ps_dput hu (pe_fld (pv 0) rfl) (pe_fld (pv 1) rfl) (pe_fld (pv 1) rfl) rfl) (pss_one (ps_if (pt_cmpR (op_eqP (F := FL) hr.units0) (pe_fld (pv 0) rfl) pe_str (nomark _)) (pss_one (ps_fld (pv 0) (pe_prop (pv 1) T.cl pE GE hr bE .nil pass0 rfl) rfl)) pss_nil)), ?_⟩
    refine ⟨_, rfl, r, C, dr, _, _, rfl, er, T.cl, T.nM, rf_m _ _, _, rfl, a, S, dx, _, _, rfl, ha, U.cl, U.nT, p4, _, rfl, r, C, dr, _, _, rfl, er, T.cl, T.nF, rf_f _ _, d, _, rfl, DPut.k (k := Sum.inl f) hd (by rw [kv_len]; exact Nat.lt_of_lt_of_le hl (by decide)), ?_⟩
    rw [put_kv hf]
    have da : a ≠ d := fun q => by rw [q, hd] at ha; cases ha
    have rd : r ≠ d := fun q => by rw [q, hd] at er; cases er
    have ha2 : (upd H d (.dK (kvI (ts ++ [(f, m)])))) a = some (.ins S dx fs) := by rw [upd_ne da]; exact ha
    have er2 : (upd H d (.dK (kvI (ts ++ [(f, m)])))) r = some (.ins C dr (rf f m)) := by rw [upd_ne rd]; exact er
    have stay : Exts H (upd H d (.dK (kvI (ts ++ [(f, m)])))) := fun q φ e => by
      rw [upd_ne (fun z => by rw [z, hd] at e; cases e)]
      exact e
    refine ⟨_, rfl, a, S, dx, _, _, rfl, ha2, U.cl, U.nQ, p2, "next", rfl, ?_⟩
    have no : ¬ pol = .str "next" → (upd H d (.dK (kvI (ts ++ [(f, m)])))) d = some (.dK (kvI (ts ++ [(f, m)]))) → Q .non (upd H d (.dK (kvI (ts ++ [(f, m)])))) := fun hz _ =>
      k _ (fun q o qa qd e => by rw [upd_ne qd]; exact e) upd_same ⟨dx, fs, ha2, p1, p2, by rw [if_neg hz]; exact p3, p4, p5, p6⟩
    rcases hP with ⟨z, rfl⟩ | ⟨fl, rfl, hlam⟩
    · refine .inl ⟨z, rfl, _, rfl, ite2 (fun h1 => ?_) fun h1 => ?_⟩
      · have hz : V.str z = .str "next" := of_decide_eq_true h1
        refine ⟨_, rfl, r, dr, _, rfl, er2, r, f, m, rfl, ⟨dr, er2⟩, _, rfl, a, S, dx, _, rfl, ha2, U.cl, U.nM, Nat.lt_trans p5 (by decide), ?_⟩
        have m1 : ¬ (("_pages" : Str) = "_mark") := by decide +kernel
        have m2 : ¬ (("_policy" : Str) = "_mark") := by decide +kernel
        have m3 : ¬ (("_taken" : Str) = "_mark") := by decide +kernel
        refine k _ (fun q o qa qd e => by rw [upd_ne qa, upd_ne qd]; exact e) (by rw [upd_ne (Ne.symm da), upd_same]) ⟨dx, _, upd_same, ?_, ?_, ?_, ?_, ?_, fun x x1 x2 x3 x4 => ?_⟩
        · rw [lookup_putF, if_neg m1]; exact p1
        · rw [lookup_putF, if_neg m2]; exact p2
        · rw [lookup_putF, if_pos rfl, if_pos hz]
        · rw [lookup_putF, if_neg m3]; exact p4
        · refine Nat.lt_of_le_of_lt (putF_len_le _ _ _ p3) p5
        · rw [lookup_putF, if_neg x3]; exact p6 x x1 x2 x3 x4
      · exact no (fun q => by rw [q] at h1; simp at h1) upd_same
    · exact .inr ⟨fl, rfl, lam_stay hlam stay, _, rfl, iteF (no (fun q => by cases q) upd_same)⟩
end
end Sc
namespace Sc
open PySem L2 LamX Lf
abbrev NAk : List Str := ["self", "many", "holes", "policy", "hole"]
section
variable {P : Program} {w : World} {K : PySem.W.Frag} {mg : Str → Option Value} {base : Heap} {C S CN : Addr} {mc : Value} {tM : Tok} {Ts : Tl} {FL : LF} {ix : Nat → Nat}
theorem ok_ansU {f : Addr} {fd : FuncData} {CX : CXT} {k : Nat} {ps : List Str} (h : ∀ z pk, Pol5 z pk → FnOk P w K mg base CX k f fd ps (spAnsT Ts C z pk)) : FnOk P w K mg base CX k f fd ps (spAnsU Ts C) :=
  ⟨fun vs H Q E ⟨z, pk, hp, hs⟩ => (h z pk hp).len vs H Q E hs, fun A outer s H args us vs Q E hr e0 hb r ⟨z, pk, hp, hs⟩ => (h z pk hp).run A outer s H args us vs Q E hr e0 hb r hs⟩
theorem scAskF : FnScope NAk ["self", "many"] (defScope s_Space__asked) := ⟨rfl, rfl, rfl, by decide +kernel, rfl, by decide +kernel, by decide +kernel⟩
/-- the item that was chosen is among its like -/
theorem runs_eqs {H H1 : Hp} {a : Addr} {f m : Int} {Qb : Bool → Prop} (ra : RunAt C H a f m) {as : List Addr} {L : List Pr} (rs : RunsAt C H as L) : ∀ (i : Nat) (b : Addr) (t : Bool), as[i]? = some b → (L.map fun x => decide (x.1 = f ∧ x.2 = m))[i]? = some t →
    (∃ dx fs, H b = some (.ins C dx fs)) ∧ (b = a → t = true) ∧ ∀ H1, Ext H H1 → spEqA K C [.ref b, .ref a] H1 (fun v H2 => v = .bl t ∧ Ext H1 H2) C8.E0 := fun i b t hb ht => by
  rw [List.getElem?_map] at ht
  obtain ⟨x, hx, rfl⟩ := Option.map_eq_some_iff.mp ht
  have rb := paired_ith rs hb hx
  obtain ⟨db, eb⟩ := id rb
  refine ⟨⟨db, _, eb⟩, fun z => ?_, fun H1 e => ⟨b, x.1, x.2, _, rfl, ⟨db, e _ _ eb⟩, .inl ⟨a, f, m, rfl, ra.imp fun d z => e _ _ z, rfl, Ext.rfl'⟩⟩⟩
  subst z
  obtain ⟨da, ea⟩ := ra
  rw [eb] at ea
  cases ea
  exact decide_eq_true ⟨rfl, rfl⟩
theorem ok_askF {f fH fQ fI : Addr} {fd fdH fdQ fdI : FuncData}
    (F : Fun K "_asked" "Space._asked" s_Space__asked f fd) (T : TR K mg C mc tM) (U : TS K mg S)
    (GH : FnOk P w K mg base CX0 7 fH fdH ["self"] (spHoles C S)) (mH : Meth K S "holes" fH) (bH : Binds K fdH ["self"] [])
    (LO : LOk P w K mg base 2 FL (spL C ix)) (hix : ∀ n, 0 < n → ix n < n) (OQ : EqM P w K mg base C fQ fdQ)
    (MI : Mk K C fI) (GI : FnOk P w K mg base CX0 3 fI fdI ["self", "first", "many"] (spInit C)) (bI : Binds K fdI ["self", "first", "many"] []) :
    FnOk P w K mg base CX0 8 f fd ["self", "many"] (spAskF C S FL ix) := by
  refine F.ok scAskF (fun vs H Q E h => ?_) (fun cdv A outer s H vs Q E hr h => ?_)
  · obtain ⟨a, d, fl, n, mk, m, ts, rfl, _⟩ := h
    rfl
  · obtain ⟨a, d, fl, n, mk, m, ts, rfl, sp, hlam, hd, tk, tl, n1, n2, m1, m2, k1, k⟩ := h
    have hr2 : Room 2 _ := hr.mono (by decide)
    have hr4 : Room 4 _ := hr.mono (by decide)
    refine ⟨_, pss_cons (ps_setLc (i := 2) (own := [("hole", 4)]) (g := gName 4) rfl scAskF.nd rfl rfl (sw_true rfl rfl rfl (by decide +kernel)) (pi_list (pe_meth0 (pv 0) U.cl mH GH hr bH .nil pass0)) (blkOk_by (N := NAk) (sc := defScope s_Space__asked) (by decide +kernel))
          (fun _ _ _ _ _ => pg_name (i := 4) scAskF.nd rfl (Or.inl rfl)) (fun _ _ _ _ _ => pts_one (pt_cmpR op_ge (Mw.pe_fldK (K := K) (pv 4) rfl) (pv 1) (nomark _))) (fun _ _ _ _ _ => pv 4))
      (pss_cons (ps_if (pt_not (pt_truth (pv 2) (by intro _; rfl))) (pss_one (ps_ret pe_non)) pss_nil)
      (pss_cons (ps_set (i := 3) scAskF.nd rfl (.inl rfl) (pe_fld (pv 0) rfl))
      (pss_cons (ps_set (i := 4) scAskF.nd rfl (.inl rfl) (pe_callF (i := 3) LO hr2 (by decide) rfl (Or.inl rfl) (pa_cons (pe_callTy call_list_of (by rfl) U.list (by decide +kernel) (pa_cons (pv 2) pa_nil)) (pa_cons (pv 1) pa_nil))))
      (pss_cons (ps_if (pt_cmpR (Io.op_inOwn (ng := true) OQ.ok hr2 OQ.nf OQ.at_ OQ.fn OQ.bd pass0) (pv 4) (pv 2) (by rfl)) (pss_one ps_never) pss_nil)
      (pss_one (ps_ret (pe_make MI GI hr4 (by rfl) T.mgC bI .nil pass0 (pa_cons (pe_fld (pv 4) rfl) (pa_cons (pv 1) pa_nil))))))))), ?_⟩
    obtain ⟨dx, fs, ha, p1, p2, p3, p4, p5, p6⟩ := id sp
    refine ⟨_, rfl, a, dx, _, rfl, ha, p6 "holes" (by decide +kernel) (by decide +kernel) (by decide +kernel) (by decide +kernel), a, d, n, mk, _, ts, rfl, sp, hd, tk, tl, n1, n2, fun H1 l as L e1 nl el rl hl ll => ?_⟩
    obtain ⟨kA, kB⟩ := k L hl
    have alen := paired_len rl
    have bd0 : ∀ x ∈ L, 0 ≤ x.1 ∧ x.1 + x.2 ≤ 1000 := fun x hx => by
      have := hl.ok x hx
      omega
    refine ⟨l, rfl, ⟨_, SqL.of el⟩, fun D nD => lc_list (K := K) (a := l) (xs := as.map V.ref) (fun i H' => ∃ bs : List Addr, Same H1 H' ∧ H' D = some (.lst (bs.map V.ref)) ∧ RunsAt C H1 bs (big (L.take i) m) ∧ bs.length ≤ i) ⟨[], put_same nD, upd_same, .nil, Nat.le_refl _⟩ (fun i H' hi ⟨bs, q1, _⟩ => SqL.of (q1 _ _ el)) ?_ ?_⟩
    · rintro i x H' hx ⟨bs, q1, q2, q3, q4⟩
      rw [List.getElem?_map] at hx
      obtain ⟨b, hb, rfl⟩ := Option.map_eq_some_iff.mp hx
      have il : i < L.length := by rw [← alen]; exact (List.getElem?_eq_some_iff.mp hb).1
      have hL : L[i]? = some L[i] := List.getElem?_eq_getElem il
      have rb := paired_ith rl hb hL
      obtain ⟨db, eb⟩ := rb
      have es : L.take (i + 1) = L.take i ++ [L[i]] := by rw [List.take_succ, hL]; rfl
      refine ⟨rfl, _, rfl, b, C, db, _, _, rfl, q1 _ _ eb, T.cl, T.nM, rf_m _ _, _, rfl, _, _, rfl, rfl, _, rfl, ite2 (fun h1 => ?_) fun h1 => ?_⟩
      · have h2 : L[i].2 ≥ m := of_decide_eq_true h1
        refine ⟨_, rfl, _, q2, Nat.lt_of_le_of_lt (by rw [List.length_map]; exact q4) (Nat.lt_of_lt_of_le (show i < 64 by omega) (by decide)), bs ++ [b], fun c o e => ?_, by rw [upd_same, List.map_append]; rfl, ?_, by rw [List.length_append]; show _ + 1 ≤ _; omega⟩
        · rw [upd_ne (fun z => by rw [z, nD] at e; cases e)]
          exact q1 _ _ e
        · rw [es]
          unfold big at q3 ⊢
          rw [List.filter_append, List.filter_cons_of_pos (by simpa using h2)]
          exact RunsAt.snoc q3 ⟨db, eb⟩
      · have h2 : ¬ L[i].2 ≥ m := of_decide_eq_false (by simpa using h1)
        refine ⟨bs, q1, q2, ?_, Nat.le_succ_of_le q4⟩
        rw [es]
        unfold big at q3 ⊢
        rw [List.filter_append, List.filter_cons_of_neg (by simpa using h2), List.filter_nil, List.append_nil]
        exact q3
    · rintro H2 ⟨bs, q1, q2, q3, q4⟩
      rw [List.length_map, alen, List.take_length] at q3
      rw [List.length_map] at q4
      have blen := paired_len q3
      have s2 := e1.trans q1
      refine ⟨_, rfl, !(bs.map V.ref).isEmpty, .inl ⟨_, SqL.of q2, rfl⟩, ?_⟩
      by_cases hb : big L m = []
      · have : bs = [] := by rw [hb] at blen; exact List.length_eq_zero_iff.mp blen
        subst this
        exact iteT (kB (by unfold ans; rw [if_pos hb]) H2 s2)
      · have hne : (bs.map V.ref).isEmpty = false := by
          cases bs with
          | nil => exact absurd (List.length_eq_zero_iff.mp blen.symm) hb
          | cons _ _ => rfl
        rw [hne]
        refine iteF ⟨_, rfl, a, S, dx, _, _, rfl, s2 _ _ ha, U.cl, U.nQ, p2, fl, rfl, lam_stay hlam (exts_same s2), _, rfl, D, _, rfl, .inl (SqL.of q2), fun l2 nl2 => ⟨_, rfl, ?_⟩⟩
        have sl := put_same (o := .lst (bs.map V.ref)) nl2
        have lpos : 0 < (big L m).length := List.length_pos_iff.mpr hb
        have bix : ix (big L m).length < bs.length := by rw [blen]; exact hix _ lpos
        have hbi : bs[ix (big L m).length]? = some bs[ix (big L m).length] := List.getElem?_eq_getElem bix
        have hLi : (big L m)[ix (big L m).length]? = some (big L m)[ix (big L m).length] := List.getElem?_eq_getElem (hix _ lpos)
        have rC := paired_ith q3 hbi hLi
        generalize hx : (big L m)[ix (big L m).length] = x at hLi rC
        generalize hb0 : bs[ix (big L m).length] = b0 at hbi rC
        have ea : ans (pkFn ix) L m mk = some x.1 := by
          unfold ans pkFn
          rw [if_neg hb, hLi]
          rfl
        have xm : x ∈ big L m := List.mem_of_getElem? hLi
        have xb := List.mem_filter.mp xm
        have xo := bd0 x xb.1
        have x2 : x.2 ≥ m := by simpa using xb.2
        have s3 := s2.trans sl
        have r3 : RunsAt C (upd H2 l2 (.lst (bs.map V.ref))) bs (big L m) := (RunsAt.same q3 q1).same sl
        refine ⟨lam_stay hlam (exts_same s3), l2, m, bs, big L m, rfl, upd_same, r3, hb, Nat.le_trans (List.length_filter_le _ _) ll, fun a1 ha1 => ?_⟩
        rw [hbi] at ha1
        cases ha1
        have r0 : RunAt C (upd H2 l2 (.lst (bs.map V.ref))) b0 x.1 x.2 := RunAt.same (RunAt.same rC q1) sl
        obtain ⟨d0, e0⟩ := id r0
        refine ⟨_, rfl, _, rfl, b0, d0, _, D, bs, (big L m).map (fun y => decide (y.1 = x.1 ∧ y.2 = x.2)), rfl, rfl, e0, sl _ _ q2, by rw [List.length_map, blen], runs_eqs (Qb := fun _ => True) (H1 := H) r0 r3, fun H3 e3 => ?_⟩
        have any : ((big L m).map (fun y => decide (y.1 = x.1 ∧ y.2 = x.2))).any id = true := List.any_eq_true.mpr ⟨true, List.mem_map.mpr ⟨x, xm, decide_eq_true ⟨rfl, rfl⟩⟩, rfl⟩
        rw [any]
        refine ⟨_, rfl, iteF ?_⟩
        refine ⟨_, rfl, b0, C, d0, _, _, rfl, e3 _ _ e0, T.cl, T.nF, rf_f _ _, _, rfl, fun r dr nr ndr ne => ⟨r, dr, x.1, m, rfl, upd_same, by omega, by unfold Most; omega, m1, by unfold Most; omega, rfl, ?_⟩⟩
        rw [upd_upd]
        obtain ⟨s5, r5⟩ := run_new (C := C) (f := x.1) (m := m) nr ndr ne
        have s4 : Same H H3 := fun b o e => e3 _ _ (s3 _ _ e)
        exact kA x.1 ea _ r (s4.trans s5) (s4.free nr) r5
end
end Sc
namespace Sc
open PySem L2 LamX Lf
section
variable {P : Program} {w : World} {K : PySem.W.Frag} {mg : Str → Option Value} {base : Heap} {C S CN : Addr} {mc : Value} {tM : Tok} {Ts : Tl} {FL : LF} {ix : Nat → Nat}
theorem ok_chooseA {f fH fA fQ fN cc cda : Addr} {fd fdH fdA fdQ : FuncData} {doc pm ct : Value}
    (F : Fun K "choose" "Space.choose" s_Space_choose f fd) (T : TR K mg C mc tM) (U : TS K mg S) (N : TN P K mg CN fN cc cda doc pm ct) (bN : Binds K ((nfNR cc cda).fd doc pm ct) ["self", "many"] [])
    (GH : FnOk P w K mg base CX0 7 fH fdH ["self"] (spHoles C S)) (mH : Meth K S "holes" fH) (bH : Binds K fdH ["self"] [])
    (GQ : FnOk P w K mg base CX0 8 fQ fdQ ["self", "many"] (spAskF C S FL ix)) (mQ : Meth K S "_asked" fQ) (bQ : Binds K fdQ ["self", "many"] [])
    (GA : FnOk P w K mg base CX0 5 fA fdA ["policy", "holes", "many", "mark"] (spAnsU Ts C)) (DA : Def K mg "answer_of" fA fdA ["policy", "holes", "many", "mark"]) :
    FnOk P w K mg base (L2.CX P w) 9 f fd ["self", "many"] (spChooseA Ts C S CN FL ix) := by
  refine F.okX scChoose (fun vs H Q E h => ?_) (fun cdv A outer s H vs Q E hr h => ?_)
  · obtain ⟨a, d, n, mk, m, pol, z, pk, ts, rfl, _⟩ := h
    rfl
  · obtain ⟨a, d, n, mk, m, pol, z, pk, ts, rfl, sp, hP, hd, tk, tl, n1, n2, m1, m2, mz, k1, k2, hT, k⟩ := h
    have hr8 : Room 8 _ := hr
    have hr7 : Room 7 _ := hr.mono (by decide)
    have hr2 : Room 2 _ := hr.mono (by decide)
    have hr5 : Room 5 _ := hr.mono (by decide)
    refine ⟨_, C8.pss_cut (ps_if (pt_val (pe_callB (call_isiP (F := FL)) (by rfl) T.isi (by decide +kernel) (pa_cons (pe_fld (pv 0) rfl) (pa_cons (pe_bltn (v := .ty "str") (by rfl) U.str (by decide +kernel) rfl) pa_nil))))
        (pss_one (ps_set (i := 2) scChoose.nd rfl (.inl rfl) (pe_call GA hr5 (by rfl) DA.at_ DA.kp DA.bd .nil pass0 (pa_cons (pe_fld (pv 0) rfl) (pa_cons (pe_meth0 (pv 0) U.cl mH GH hr7 bH .nil pass0) (pa_cons (pv 1) (pa_cons (pe_fld (pv 0) rfl) pa_nil)))))))
        (pss_one (ps_set (i := 2) scChoose.nd rfl (.inl rfl) (pe_meth (pv 0) U.cl mQ GQ hr8 bQ .nil pass0 (pa_cons (pv 1) pa_nil)))))
      (pss_cons (ps_if (pt_cmpR op_isN (pv 2) pe_non (nomark _)) (pss_one (ps_raise rfl (takes_of rfl rfl rfl rfl) (Si.pmk_g N.g N.iC N.tI (ok_norm N) hr2 bN pass0 (by rfl) N.mgN (pa_cons (pv 1) pa_nil)))) pss_nil)
      (pss_one (ps_ret (pv 2)))), ?_⟩
    obtain ⟨dx, fs, ha, p1, p2, p3, p4, p5, p6⟩ := id sp
    refine ⟨fun σ H' => ∃ (L : List Pr) (s0 : Int) (v : V), σ = [some (.ref a), some (.int m), some v] ∧ ExtN H H' ∧ Tabs Ts H' ∧ Sm.HL n ts L ∧ szOk z s0 m ∧ 1 ≤ s0 ∧ s0 ≤ 1000 ∧ ((∃ c r, ans pk L s0 mk = some c ∧ v = .ref r ∧ NewT H r ∧ RunAt C H' r c s0) ∨ (ans pk L s0 mk = none ∧ v = .non)), ?_, ?_⟩
    · refine ⟨_, rfl, a, S, dx, _, _, rfl, ha, U.cl, U.nQ, p2, ?_⟩
      rcases hP with ⟨rfl, h5⟩ | ⟨fl, rfl, hlam, rfl, rfl⟩
      · refine .inr ⟨_, _, .type "str", .type "str", true, rfl, .ty "str", .base (.str z), kit_ty (by decide +kernel), true, rfl, iteT ?_⟩
        refine ⟨_, rfl, a, S, dx, _, _, rfl, ha, U.cl, U.nQ, p2, _, rfl, a, dx, _, rfl, ha, p6 "holes" (by decide +kernel) (by decide +kernel) (by decide +kernel) (by decide +kernel), a, d, n, mk, _, ts, rfl, sp, hd, tk, tl, n1, n2, fun H1 l as L e1 nl el rl hl ll => ?_⟩
        refine ⟨_, rfl, _, rfl, a, S, dx, _, _, rfl, e1 _ _ ha, U.cl, U.nM, p3, z, pk, h5, l, mk, m, as, L, rfl, el, rl, fun x hx => ?_, ll, m1, m2, mz, k1, k2, hT.ext e1, fun s0 hs0 s1 s2 => ⟨fun c hc H2 r e2 T2 nr rr => ?_, fun hn H2 e2 T2 => ?_⟩⟩
        · have := hl.ok x hx
          omega
        · exact ⟨L, s0, _, rfl, (ExtN.of e1).trans e2, T2, hl, hs0, s1, s2, .inl ⟨c, r, hc, rfl, newT_back e1 nr, rr⟩⟩
        · exact ⟨L, s0, _, rfl, (ExtN.of e1).trans e2, T2, hl, hs0, s1, s2, .inr ⟨hn, rfl⟩⟩
      · refine .inl ⟨fl, rfl, fl, _, _, false, rfl, .ty "str", hlam, kit_ty (by decide +kernel), false, rfl, iteF ?_⟩
        have nh : ¬ (("fn" : Str) = "halves") := by decide +kernel
        refine ⟨_, rfl, a, dx, _, rfl, ha, p6 "_asked" (by decide +kernel) (by decide +kernel) (by decide +kernel) (by decide +kernel), _, rfl, a, d, fl, n, mk, m, ts, rfl, sp, hlam, hd, tk, tl, n1, n2, m1, m2, k1, fun L hl => ⟨fun c hc H2 r e2 nr rr => ?_, fun hn H2 e2 => ?_⟩⟩
        · exact ⟨L, m, _, rfl, ExtN.of e2, hT.ext e2, hl, by unfold szOk; rw [if_neg nh], m1, m2, .inl ⟨c, r, hc, rfl, (fun o ho => by rw [nr] at ho; cases ho), rr⟩⟩
        · exact ⟨L, m, _, rfl, ExtN.of e2, hT.ext e2, hl, by unfold szOk; rw [if_neg nh], m1, m2, .inr ⟨hn, rfl⟩⟩
    · rintro _ H2 ⟨L, s0, v, rfl, e2, T2, hl, hs0, s1, s2, ⟨c, r, hc, rfl, nr, rr⟩ | ⟨hn, rfl⟩⟩
      · exact ⟨_, rfl, rfl, _, rfl, iteF ⟨_, rfl, (k L s0 hl hs0 s1 s2).1 c hc H2 r e2 T2 nr rr⟩⟩
      · exact ⟨_, rfl, rfl, _, rfl, iteT (raise_normT e2 T2 (by omega) (by omega) 1 rfl ((k L s0 hl hs0 s1 s2).2 hn))⟩
theorem ok_takeA {f fC fO : Addr} {fd fdC fdO : FuncData} (F : Fun K "take" "Space.take" s_Space_take f fd) (U : TS K mg S)
    (GC : FnOk P w K mg base (L2.CX P w) 9 fC fdC ["self", "many"] (spChooseA Ts C S CN FL ix)) (mC : Meth K S "choose" fC) (bC : Binds K fdC ["self", "many"] []) (GO : FnOk P w K mg base CX0 3 fO fdO ["self", "run"] (spOccA C S FL)) (mO : Meth K S "occupy" fO) (bO : Binds K fdO ["self", "run"] []) :
    FnOk P w K mg base (L2.CX P w) 10 f fd ["self", "many"] (spTakeA Ts C S CN FL ix) := by
  refine F.okX scTakeS (fun vs H Q E h => ?_) (fun cdv A outer s H vs Q E hr h => ?_)
  · obtain ⟨a, d, n, mk, m, pol, z, pk, ts, rfl, _⟩ := h
    rfl
  · obtain ⟨a, d, n, mk, m, pol, z, pk, ts, rfl, sp, hP, hd, tk, tl, n1, n2, m1, m2, mz, k1, k2, hT, k⟩ := h
    have hr3 : Room 3 _ := hr.mono (by decide)
    refine ⟨_, pss_cons (ps_set (i := 2) scTakeS.nd rfl (.inl rfl) (pe_meth (E := E) (pv 0) U.cl mC GC hr bC .nil (passes_call (takes_of rfl rfl rfl rfl) fun _ _ _ _ z => z) (pa_cons (pv 1) pa_nil)))
      (pss_cons (ps_expr (pe_meth (pv 0) U.cl mO GO hr3 bO .nil pass0 (pa_cons (pv 2) pa_nil))) (pss_one (ps_ret (pv 2)))), ?_⟩
    obtain ⟨dx, fs, ha, p1, p2, p3, p4, p5, p6⟩ := id sp
    refine ⟨_, rfl, a, dx, _, rfl, ha, p6 "choose" (by decide +kernel) (by decide +kernel) (by decide +kernel) (by decide +kernel), _, rfl, a, d, n, mk, m, pol, z, pk, ts, rfl, sp, hP, hd, tk, tl, n1, n2, m1, m2, mz, k1, k2, hT, fun L s0 hl hs s1 s2 => ⟨fun c hc H1 r e1 T1 nr rr => ?_, (k L s0 hl hs s1 s2).2⟩⟩
    obtain ⟨c0, c1, c2, c3⟩ := fit_free hP.fit tk hl n2 s1 k1 hc
    have sp1 := sp.extN e1
    have ha1 := e1 _ _ ha (fun ps z => by cases z)
    have hd1 := e1 _ _ hd (fun ps z => by cases z)
    refine ⟨_, rfl, a, dx, _, rfl, ha1, p6 "occupy" (by decide +kernel) (by decide +kernel) (by decide +kernel) (by decide +kernel), _, rfl, a, r, d, n, mk, c, s0, pol, ts, rfl, sp1, hP.pv.ext e1, hd1, rr, fun x hx q => ?_, Nat.lt_trans tl (by decide), fun H2 e2 h2 sp2 => ?_⟩
    · have := tk.ok x hx
      exact c2 c ⟨Int.le_refl _, by show c < c + s0; omega⟩ x hx ⟨by omega, by omega⟩
    · have ra : r ≠ a := (nr.ne ha (fun ps z => by cases z)).symm
      have rd : r ≠ d := (nr.ne hd (fun ps z => by cases z)).symm
      obtain ⟨dr, er⟩ := rr
      exact ⟨_, rfl, (k L s0 hl hs s1 s2).1 c hc H2 r (fun q o qa qd nt e => e2 q o qa qd (e1 _ _ e nt)) (tabs_put2 T1 e2 ha1 hd1 ins_nt dk_nt) nr ⟨dr, e2 r _ ra rd er⟩ h2 sp2⟩
end
end Sc
namespace Ln
open PySem PySem.Spec PyProof.Rows L2
/-- a view of the items of the dict at d -/
def ViewO (v d : Addr) : HO := .ext fun h => h.get? v = some { cls := .type "dict_items", data := .fields #[.ref d] }
def rItems : V → List V → Hp → VK → Prop := fun x xs H Q => ∃ (d : Addr) (kvs : List (Key × V)), x = .ref d ∧ xs = [] ∧ H d = some (.dK kvs) ∧ ∀ v, H v = none → Q (.ref v) (upd H v (ViewO v d))
section
variable {X : Cx}
theorem mt_items : MtR X "dict.items" rItems := by
  intro pins s σ H x vs v us Q I rx rv h
  obtain ⟨d, kvs, rfl, rfl, hd, q⟩ := h
  cases rx
  have hus := rv.zero
  subst hus
  obtain ⟨hz, hs0, vs, kv, hdo⟩ := I.hok d _ hd
  refine call_meetsIn F.slot_dict_items hdo.typeIs F.entry_dict_items (F.args_dict_items_1 _) (meets_dict_items (mixKind X.prog X.w) d hs0) ⟨⟨vs, hdo⟩, ?_⟩
  refine ⟨.ref s.heap.objs.size, _, I.laid (a := s.heap.objs.size) (t' := s.toks) (fun b ob q => Heap.get?_push_of_some _ q) (Nat.le_refl _) ?_, rfl, q _ (I.hok.fresh (Nat.le_refl _))⟩
  exact ⟨Heap.get?_push_size _ rfl, ⟨_, Heap.get?_push_size _ rfl⟩, fun h1 h2 e k => k _ e⟩
end
/-! pairs of an int and a bool -/
def IsPB (h : Heap) (v : Value) (x : Int) (b : Bool) : Prop := ∃ a o t n, v = .ref a ∧ h.get? a = some o ∧ o.cls = .type "tuple" ∧ o.data = .seq #[.int x t, .bool b] n
theorem IsPB.keeps {h h' : Heap} {v : Value} {x : Int} {b : Bool} (p : IsPB h v x b) (k : ∀ b o, h.get? b = some o → o.cls = .type "tuple" → h'.get? b = some o) : IsPB h' v x b := by
  obtain ⟨a, o, t, n, e, ho, hc, hd⟩ := p
  exact ⟨a, o, t, n, e, k _ _ ho hc, hc, hd⟩
theorem firsts_pb {h : Heap} : ∀ {vs : List Value}, (∀ v ∈ vs, ∃ x y, IsPB h v x y) → ∃ fs : List Value, PySem.W.KatTups h vs fs ∧ fs.length = vs.length ∧ ∀ f ∈ fs, ∃ x t, f = Value.int x t
  | [], _ => ⟨[], PySem.W.KatTups.nil, rfl, fun _ hm => by simp at hm⟩
  | v :: vs, hp => by
    obtain ⟨fs, h1, h2, h3⟩ := firsts_pb (vs := vs) fun v' hm => hp v' (List.mem_cons_of_mem _ hm)
    obtain ⟨x, y, a, o, t, n, e, ho, hc, hd⟩ := hp v (List.mem_cons_self ..)
    subst e
    refine ⟨.int x t :: fs, PySem.W.KatTups.cons ho hc hd rfl h1, by rw [List.length_cons, List.length_cons, h2], fun f hm => ?_⟩
    rcases List.mem_cons.mp hm with rfl | hm
    · exact ⟨x, t, rfl⟩
    · exact h3 f hm
section
variable {prog : Program} {w : World} {A : Around} {s : Shared}
open SrtO in
theorem pb_cmp {vs : List Value} {k : Value → Int} {g : Value → Bool} (hp : ∀ v ∈ vs, IsPB s.heap v (k v) (g v)) (hu : ∀ v ∈ vs, ∀ u ∈ vs, k v = k u → g v = g u) : Cmp prog w A s (tuples' true) (fun p => p.1 ∈ vs) (lt2 (ltK k)) := by
  intro p q hm hm'
  have h1 := hp _ hm
  have h2 := hp _ hm'
  have hg := hu _ hm _ hm'
  show wpAny (model prog w) A (keyLt' (tuples' true) p.1 q.1) (fun r s' => s' = s ∧ r = decide (k p.1 < k q.1)) (fun _ _ => False) s
  generalize k p.1 = x at h1 hg ⊢
  generalize g p.1 = y at h1 hg ⊢
  generalize k q.1 = x' at h2 hg ⊢
  generalize g q.1 = y' at h2 hg ⊢
  obtain ⟨a, o, t, n, e, ho, hc, hd⟩ := h1
  obtain ⟨a', o', t', n', e', ho', hc', hd'⟩ := h2
  rw [e, e']
  refine PySem.W.kat_lt ho hd ho' hd' ?_
  show PySem.W.KatLex prog w A true (decide (2 < 2)) _ [(.int x t, .int x' t'), (.bool y, .bool y')] 0 s
  refine PySem.W.kat_cons (SeqAt.EqAt.int_int x t x' t' prog w _ _ ?_)
  refine PySem.W.kat_go (fun e1 => ?_) (fun e1 => ?_)
  · have ex : x = x' := by simpa using e1
    have ey : y = y' := hg ex
    refine PySem.W.kat_yes (PySem.W.kat_cons (SeqAt.EqAt.bool_bool y y' prog w _ _ ?_))
    refine PySem.W.kat_go (fun e2 => ?_) (fun e2 => ?_)
    · have e3 : decide (x < x') = false := decide_eq_false (by omega)
      exact PySem.W.kat_yes (PySem.W.kat_nil ⟨rfl, e3.symm⟩)
    · rw [ey] at e2
      simp at e2
  · exact PySem.W.kat_no (oneLt_int ⟨rfl, rfl⟩)
open SrtO in
theorem pb_sortable {a : Addr} {vs : List Value} {k : Value → Int} {g : Value → Bool} (h0 : 0 < vs.length) (hp : ∀ v ∈ vs, IsPB s.heap v (k v) (g v)) (hu : ∀ v ∈ vs, ∀ u ∈ vs, k v = k u → g v = g u)
    (ha : ∀ o, s.heap.get? a = some o → o.cls ≠ .type "tuple") : SortableO prog w A s a vs (ltK k) := by
  intro h' keep
  have hp' : ∀ v ∈ vs, IsPB h' v (k v) (g v) := fun v hm => (hp v hm).keeps fun b o e c => keep b o (fun z => by subst z; exact ha o e c) e
  obtain ⟨fs, h1, h2, h3⟩ := firsts_pb fun v hm => ⟨_, _, hp' v hm⟩
  refine ⟨tuples' true, fun Q E hq => ?_, pb_cmp hp' hu⟩
  refine PySem.W.kat_kind (T := .type "int") h1 (by omega) (fun f hm => ?_) (by rfl) ?_
  · obtain ⟨x, t, rfl⟩ := h3 f hm
    exact PySem.W.Looks.now
  · have e : (Value.type "int" != Value.type "tuple") = true := by first | decide +kernel | rfl | decide
    rw [e]
    exact hq
end
/-! the list of the pairs, laid with the tuples -/
section
variable {X : Cx}
theorem pairs_laid {pins : List (Addr × Obj)} {σ : L2.St} {H : Hp} {s : Shared} {h' : Heap} {tk : Nat} {kvs : List (Key × V)} {vs : List (Key × Value)} {as : List Addr} {L : Addr} {ys : List V} {out : List Value} {c : Nat} (I : Inv X pins σ H s) (kv : KV kvs vs)
    (hk : ∀ b o, s.heap.get? b = some o → h'.get? b = some o) (newS : H L = none) (hLb : ∀ b o, s.heap.get? b = some o → b ≠ L) (hLa : L ∉ as) (hS : h'.get? L = some { cls := .type "list", dict := none, data := .seq out.toArray c, slots := #[] }) (hy : Vals ys out) (hyz : ys.length ≤ sizeLine)
    (hl : as.length = vs.length) (hG : PySem.W.KdxG (mixKind X.prog X.w) vs s.heap.objs.size h' as) :
    ∃ H' : Hp, (∀ b o, H b = some o → H' b = some o) ∧ H L = none ∧ (∀ t ∈ as, H t = none) ∧ H' L = some (.lst ys) ∧ Paired (fun (t : Addr) (q : Key × V) => H' t = some (.tup [kV q.1, q.2])) as kvs ∧ Inv X pins σ H' { s with heap := h', toks := tk } := by
  have lk : kvs.length = vs.length := Paired.length kv
  have nd : as.Nodup := List.Pairwise.imp (fun {a b} (h : a < b) => Nat.ne_of_lt h) hG.rise
  have new : ∀ t ∈ as, H t = none := fun t ht => I.hok.fresh (Nat.le_of_lt (hG.above t ht))
  have atP := LiI.putT_at as kvs (upd H L (.lst ys)) (by omega) nd
  have off : ∀ b, b ∉ as → b ≠ L → LiI.putT (upd H L (.lst ys)) as kvs b = H b := fun b h1 h2 => by rw [LiI.putT_off as kvs _ h1, upd_ne h2]
  have low : ∀ b o, s.heap.get? b = some o → b ∉ as ∧ b ≠ L := fun b o e => ⟨fun z => absurd (Heap.lt_size e) (Nat.not_lt.mpr (Nat.le_of_lt (hG.above b z))), hLb b o e⟩
  have kp : ∀ b u, H b = some u → (LiI.putT (upd H L (.lst ys)) as kvs) b = some u := fun b u e => by
    rw [off b (fun z => by rw [new b z] at e; cases e) (fun z => by rw [z, newS] at e; cases e)]
    exact e
  have eS : LiI.putT (upd H L (.lst ys)) as kvs L = some (.lst ys) := by rw [LiI.putT_off as kvs _ hLa, upd_same]
  refine ⟨LiI.putT (upd H L (.lst ys)) as kvs, kp, newS, new, eS, atP, ?_⟩
  refine I.call' (ch := []) rfl ⟨fun b o q _ _ _ => hk b o q, fun b o q _ _ _ => ⟨o.slots, hk b o q⟩, fun b o q n _ => ?_, fun b o q _ => ⟨o, hk b o q⟩, fun b xs q => kp b _ q, fun b o u q => kp b _ q, fun b ps q => ⟨#[], by rw [kp b _ q]; simp⟩⟩ (fun b u q => ?_) I.bare fun b z => by simp at z
  · obtain ⟨z1, z2⟩ := low b o q
    rw [off b z1 z2]
    exact n
  · by_cases hb : b ∈ as
    · obtain ⟨j, pk, e1, e2, e3⟩ := LiI.paired_ix atP hb
      rw [e3] at q
      cases q
      obtain ⟨key, k, x, f1, f2, f3⟩ := hG.pairs j b e1
      obtain ⟨qv, g1, g2, g3⟩ := LiI.paired_get kv e2
      rw [f1] at g1
      cases g1
      have rk : RelV (kV pk.1) key := by
        rw [g2]
        exact relV_key (show keyIs k key = true from f2)
      exact ⟨by show 2 ≤ sizeLine; decide, [key, x], .cons rk (.cons g3 .nil), ⟨_, f3, rfl, _, rfl⟩⟩
    · by_cases hb2 : b = L
      · rw [hb2] at q ⊢
        rw [eS] at q
        cases q
        exact ⟨hyz, out, c, hy, hS⟩
      · rw [off b hb hb2] at q
        exact (I.hok b u q).stay (fun d v _ y => hk d v y) (fun d y => kp d _ y) fun d xs y => kp d _ y
end
/-- the int and the bool of a pair, read off the heap -/
def kOf (h : Heap) : Value → Int
  | .ref a => match h.get? a with
    | some o => match o.data with
      | .seq its _ => match (its[0]? : Option Value) with
        | some (Value.int x _) => x
        | _ => 0
      | _ => 0
    | none => 0
  | _ => 0
def gOf (h : Heap) : Value → Bool
  | .ref a => match h.get? a with
    | some o => match o.data with
      | .seq its _ => match (its[1]? : Option Value) with
        | some (Value.bool x) => x
        | _ => false
      | _ => false
    | none => false
  | _ => false
theorem pb_reads {h : Heap} {v : Value} {x : Int} {b : Bool} (p : IsPB h v x b) : kOf h v = x ∧ gOf h v = b := by
  obtain ⟨a, o, t, n, rfl, ho, hc, hd⟩ := p
  unfold kOf gOf
  simp only [ho, hd]
  exact ⟨rfl, rfl⟩

def kvB (ks : List (Int × Bool)) : List (Key × V) := ks.map fun p => (Sum.inl p.1, V.bl p.2)
def rSortedI : List V → Hp → VK → Prop := fun vs H Q => ∃ (v d : Addr) (ks : List (Int × Bool)), vs = [V.ref v] ∧ H v = some (ViewO v d) ∧ H d = some (.dK (kvB ks)) ∧ (ks.map (·.1)).Nodup ∧
  ∀ (H' : Hp) (p : Addr) (ts : List Addr) (ks' : List (Int × Bool)), (∀ b o, H b = some o → H' b = some o) → H p = none → (∀ t ∈ ts, H t = none) → H' p = some (.lst (ts.map V.ref)) → ks'.Perm ks → ks'.Pairwise (fun a b => a.1 < b.1) →
    Paired (fun (t : Addr) (q : Int × Bool) => H' t = some (.tup [.int q.1, .bl q.2])) ts ks' → Q (.ref p) H'
theorem paired_map {α β γ : Type} {F : α → β → Prop} (f : γ → α) (g : γ → β) : ∀ {l : List γ}, (∀ x ∈ l, F (f x) (g x)) → Paired F (l.map f) (l.map g)
  | [], _ => .nil
  | x :: l, h => .cons (h x List.mem_cons_self) (paired_map f g fun y hy => h y (List.mem_cons_of_mem _ hy))
def unRef : Value → Addr
  | .ref a => a
  | _ => 0
section
variable {X : Cx}
theorem cr_sortedItems (hcalm : X.calm = true) : CallR X (.builtin "sorted") rSortedI := by
  intro pins s σ H xs us Q I r q
  obtain ⟨v, d, ks, rfl, hv, hd, hnd, q⟩ := q
  obtain ⟨u, rfl, ru⟩ := vals1 r
  obtain rfl : u = Value.ref v := ru
  have hview := (I.hok v _ hv).1
  obtain ⟨hz, hs0, vs, kv, hdo⟩ := I.hok d _ hd
  obtain ⟨ep, hat⟩ := hdo.dictAt
  have lk : (kvB ks).length = vs.length := Paired.length kv
  have lks : (kvB ks).length = ks.length := by unfold kvB; rw [List.length_map]
  refine Calls.call_function_entry PyProof.Rows.kind_sorted PyProof.Rows.plain_sorted PyProof.Rows.entry_sorted (PyProof.Rows.args_sorted1 _) ?_
  unfold Builtin.«sorted»
  refine wpAny_bind (m := checkCount "sorted" 1 1 _) (wpAny_pure ?_)
  refine wpAny_bind (PySem.W.kdx_collect (A := X.A.in1) (knd := mixKind X.prog X.w) (kvs := vs) (ep := ep) (I.ok.hd hcalm) ⟨_, hview, rfl, rfl⟩ hat (by omega) fun h' tk as hk hl hG => ?_)
  have hlen : (as.map Value.ref).length ≤ sizeLine := by rw [List.length_map]; omega
  refine wpAny_bind (wpAny_newList ?_ hlen)
  -- the pairs
  have hp : ∀ (j : Nat) (a : Addr), as[j]? = some a → ∃ p, ks[j]? = some p ∧ IsPB h' (.ref a) p.1 p.2 := fun j a hj => by
    obtain ⟨key, kk, x, e1, e2, e3⟩ := hG.pairs j a hj
    have hjl : j < as.length := (List.getElem?_eq_some_iff.mp hj).1
    have hjk : j < ks.length := by omega
    have e4 : (kvB ks)[j]? = some (Sum.inl (ks[j]).1, V.bl (ks[j]).2) := by
      unfold kvB
      rw [List.getElem?_map, List.getElem?_eq_getElem hjk] <;> rfl
    obtain ⟨qv, g1, g2, g3⟩ := LiI.paired_get kv e4
    rw [e1] at g1
    cases g1
    have rk : RelV (kV (Sum.inl (ks[j]).1)) key := by
      have z : kk = Sum.inl (ks[j]).1 := g2.symm
      rw [← z]
      exact relV_key (show keyIs kk key = true from e2)
    obtain ⟨t, rfl⟩ := rk
    obtain rfl : x = Value.bool (ks[j]).2 := g3
    exact ⟨ks[j], List.getElem?_eq_getElem hjk, a, _, t, _, rfl, e3, rfl, rfl⟩
  have hIs : ∀ v ∈ as.map Value.ref, IsPB h' v (kOf h' v) (gOf h' v) := fun v hm => by
    obtain ⟨a, ha, rfl⟩ := List.mem_map.mp hm
    obtain ⟨j, hj⟩ := List.mem_iff_getElem?.mp ha
    obtain ⟨p, _, hpb⟩ := hp j a hj
    obtain ⟨e1, e2⟩ := pb_reads hpb
    rw [e1, e2]
    exact hpb
  have hmap : (as.map Value.ref).map (fun v => (kOf h' v, gOf h' v)) = ks := by
    apply List.ext_getElem?
    intro j
    rw [List.map_map, List.getElem?_map]
    cases e : as[j]? with
    | none =>
      have : as.length ≤ j := List.getElem?_eq_none_iff.mp e
      rw [List.getElem?_eq_none (by omega)]
      rfl
    | some a =>
      obtain ⟨p, e1, hpb⟩ := hp j a e
      obtain ⟨e2, e3⟩ := pb_reads hpb
      rw [e1]
      show some (kOf h' (.ref a), gOf h' (.ref a)) = some p
      rw [e2, e3]
  have hu : ∀ v ∈ as.map Value.ref, ∀ u ∈ as.map Value.ref, kOf h' v = kOf h' u → gOf h' v = gOf h' u := fun v hm u hn e => by
    obtain ⟨i, hi⟩ := List.mem_iff_getElem?.mp hm
    obtain ⟨j, hj⟩ := List.mem_iff_getElem?.mp hn
    have e1 : ks[i]? = some (kOf h' v, gOf h' v) := by rw [← hmap, List.getElem?_map, hi]; rfl
    have e2 : ks[j]? = some (kOf h' u, gOf h' u) := by rw [← hmap, List.getElem?_map, hj]; rfl
    have f1 : (ks.map (·.1))[i]? = some (kOf h' v) := by rw [List.getElem?_map, e1]; rfl
    have f2 : (ks.map (·.1))[j]? = some (kOf h' v) := by rw [List.getElem?_map, e2, e]; rfl
    have ij : i = j := nd_ix hnd f1 f2
    subst ij
    rw [e1] at e2
    exact (Prod.mk.inj (Option.some.inj e2)).2
  have I1 : Inv X pins σ H { s with heap := h', toks := tk } := I.kept hk
  have hoL : (h'.push (seqObj "list" (as.map Value.ref).toArray 0)).get? h'.objs.size = some (seqObj "list" (as.map Value.ref).toArray 0) := Heap.get?_push_size _ rfl
  show wpAny _ _ _ _ _ { s with heap := h'.push (seqObj "list" (as.map Value.ref).toArray 0), toks := tk }
  refine wpAny_bind (wpAny_holding (wpAny_call_entry PyProof.Rows.slot_list_sort ⟨_, hoL, rfl⟩ PyProof.Rows.entry_list_sort
    (SrtO.list_sort_ord (swo_K (kOf h')) hoL hlen (fun h2 => ?_) fun out hs hb => ⟨_, rfl, ?_⟩) (PyProof.Rows.args_list_sort _)))
  · refine pb_sortable (g := gOf h') (by omega) (fun v hm => (hIs v hm).keeps fun b o e _ => Heap.get?_push_of_some _ e) hu fun o e => ?_
    rw [hoL] at e
    cases e
    intro c
    exact absurd (Value.type.inj c) (by decide)
  · have hout : ∀ x ∈ out, ∃ a ∈ as, x = Value.ref a := fun x hx => by
      obtain ⟨a, ha, e⟩ := List.mem_map.mp (hb.perm.mem_iff.mp hx)
      exact ⟨a, ha, e.symm⟩
    have eout : out = (out.map unRef).map Value.ref := by
      rw [List.map_map]
      conv => lhs; rw [← List.map_id out]
      refine List.map_congr_left fun x hx => ?_
      obtain ⟨a, _, rfl⟩ := hout x hx
      rfl
    obtain ⟨e', he'⟩ := PyProof.Rows.sortedHeap_at (vs := as.map Value.ref) (out := out.toArray) hoL
    have hkk : ∀ b o, h'.get? b = some o → (sortedHeap (h'.push (seqObj "list" (as.map Value.ref).toArray 0)) h'.objs.size (as.map Value.ref) out.toArray).get? b = some o := fun b u e => by
      have hb : b < h'.objs.size := Heap.lt_size e
      rw [PyProof.Rows.sortedHeap_old (Nat.ne_of_lt hb) (by rw [size_push']; exact Nat.lt_succ_of_lt hb)]
      exact Heap.get?_push_of_some _ e
    have hLa : h'.objs.size ∉ as := fun z => Nat.lt_irrefl _ (hG.there z)
    have hG3 : PySem.W.KdxG (mixKind X.prog X.w) vs s.heap.objs.size (sortedHeap (h'.push (seqObj "list" (as.map Value.ref).toArray 0)) h'.objs.size (as.map Value.ref) out.toArray) as := ⟨hG.rise, hG.above, fun j a hj => by
      obtain ⟨key, kk, x, e1, e2, e3⟩ := hG.pairs j a hj
      exact ⟨key, kk, x, e1, e2, hkk _ _ e3⟩⟩
    have hyv : Vals ((out.map unRef).map V.ref) out := by
      have z : Vals ((out.map unRef).map V.ref) ((out.map unRef).map Value.ref) := LiI.vals_refs _
      rw [← eout] at z
      exact z
    have hyz : ((out.map unRef).map V.ref).length ≤ sizeLine := by
      rw [List.length_map, List.length_map, hb.perm.length_eq]
      exact hlen
    obtain ⟨H', k1, k2, k3, k4, k5, J⟩ := pairs_laid (tk := tk) I kv (fun b o e => hkk b o (hk b o e)) (I1.hok.fresh (Nat.le_refl _)) (fun b o e => Nat.ne_of_lt (Heap.lt_size (hk b o e))) hLa he' hyv hyz hl hG3
    have kper : (out.map fun v => (kOf h' v, gOf h' v)).Perm ks := by
      have z := hb.perm.map fun v => (kOf h' v, gOf h' v)
      rw [hmap] at z
      exact z
    refine wpAny_pure ⟨_, rfl, .ref h'.objs.size, H', J, rfl, q H' _ (out.map unRef) (out.map fun v => (kOf h' v, gOf h' v)) k1 k2 (fun t ht => ?_) k4 kper ?_ ?_⟩
    · obtain ⟨x, hx, rfl⟩ := List.mem_map.mp ht
      obtain ⟨a, ha, rfl⟩ := hout x hx
      exact k3 a ha
    · have nd2 : ((out.map fun v => (kOf h' v, gOf h' v)).map (·.1)).Nodup := (kper.map (·.1)).nodup_iff.mpr hnd
      have nd3 : out.Pairwise fun v u => kOf h' v ≠ kOf h' u := by
        rw [List.map_map] at nd2
        exact List.pairwise_map.mp nd2
      refine List.pairwise_map.mpr ?_
      have hs' : out.Pairwise fun x y => ltK (kOf h') y x = false := hs
      refine List.Pairwise.imp (fun {a b} (h : ltK (kOf h') b a = false ∧ kOf h' a ≠ kOf h' b) => ?_) (List.pairwise_and_iff.mpr ⟨hs', nd3⟩)
      have h1 : ¬ kOf h' b < kOf h' a := of_decide_eq_false h.1
      have h2 := h.2
      show kOf h' a < kOf h' b
      omega
    · refine paired_map unRef (fun v => (kOf h' v, gOf h' v)) fun x hx => ?_
      obtain ⟨a, ha, rfl⟩ := hout x hx
      obtain ⟨j, hj⟩ := List.mem_iff_getElem?.mp ha
      obtain ⟨qv, g1, g2⟩ := LiI.paired_get k5 hj
      obtain ⟨p, e1, hpb⟩ := hp j a hj
      obtain ⟨e2, e3⟩ := pb_reads hpb
      have g3 : (kvB ks)[j]? = some (Sum.inl p.1, V.bl p.2) := by
        unfold kvB
        rw [List.getElem?_map, e1] <;> rfl
      rw [g3] at g1
      cases g1
      show H' a = some (.tup [.int (kOf h' (.ref a)), .bl (gOf h' (.ref a))])
      rw [e2, e3]
      exact g2
end
end Ln
/-! xs != [] of any list. -/
namespace Nn
open PySem PySem.Spec PyProof.Rows L2 PySem.SeqAt
section
variable {X : Cx}
def rNeNil (K : PySem.W.Frag) : R2 := fun x y H Q => ∃ a b xs, x = .ref a ∧ y = .ref b ∧ SqL K H a xs ∧ SqL K H b [] ∧ Q (.bl (!xs.isEmpty)) H
theorem op_neNil (hu : X.A.units < cLine) : OpR X (compareOp .NotEq) (rNeNil X.K) := by
  intro pins s σ H x y v u Q I rx ry h
  obtain ⟨a, b, xs, rfl, rfl, ha, hb, q⟩ := h
  cases rx
  cases ry
  obtain ⟨its, rv, hl, _⟩ := I.list ha
  obtain ⟨its2, rv2, hl2, _⟩ := I.list hb
  obtain ⟨⟨c1, d1, t1, s1⟩, h1, e1, n1, f1⟩ := hl.isList
  obtain ⟨⟨c2, d2, t2, s2⟩, h2, e2, n2, f2⟩ := hl2.isList
  dsimp only at e1 f1 e2 f2
  subst e1 f1 e2 f2
  have z2 : its2 = [] := by
    cases its2 with
    | nil => rfl
    | cons _ _ => cases rv2
  subst z2
  have fin : ∀ s', s' = s → EP X pins σ Q (.bool (!xs.isEmpty)) s' := fun s' z => by rw [z]; exact ⟨.bl (!xs.isEmpty), H, I, rfl, q⟩
  show wpAny (model X.prog X.w) X.A (richCompare .NotEq (.ref a) (.ref b)) (EP X pins σ Q) X.xe s
  refine wpAny_richCompare_same_room (op := .NotEq) ⟨_, h1, rfl⟩ ⟨_, h2, rfl⟩ F.slot_list_ne (GQ.call_here F.slot_list_ne ⟨_, h1, rfl⟩ F.entry_list_ne (F.args_list_ne_2 _ _) ?_) hu
  cases xs with
  | nil =>
    cases rv
    exact list_neAt a b _ _ n1 n2 d1 d2 s1 s2 rfl (fun _ => true) _ _ _ (wants (fun v s' => v ≠ .notImplemented ∧ EP X pins σ Q v s') X.xe) _ ⟨h1, h2, fun j q1 _ => absurd q1 (Nat.not_lt_zero _), ⟨fun x => (nomatch x), fin _ rfl⟩⟩
  | cons x r =>
    cases rv
    exact list_ne_lengthsAt a b _ _ n1 n2 d1 d2 s1 s2 (by simp) _ _ _ (wants (fun v s' => v ≠ .notImplemented ∧ EP X pins σ Q v s') X.xe) _ ⟨h1, h2, ⟨fun x => (nomatch x), fin _ rfl⟩⟩
/-- x not in o, by an own __contains__ -/
def rNotInO (C : Addr) (sp : Sp) (E : XK) : R2 := fun x y H Q => ∃ a dx fs, y = .ref a ∧ H a = some (.ins C dx fs) ∧ sp [.ref a, x] H (fun v H' => ∃ b, v = .bl b ∧ Q (.bl (!b)) H') E
theorem op_notInO {CX : CXT} {k : Nat} {C f : Addr} {fd : FuncData} {ps : List Str} {sp : Sp} {E : XK} (F : FnOk X.prog X.w X.K X.mg X.base CX k f fd ps sp) (hr : Room k X.A) (hs : PySem.W.findIn X.K (.ref C) "__contains__" = some (some (.ref f))) (hf : PySem.W.isFn X.K (.ref f) = true) (hb : Binds X.K fd ps []) (hx : Passes CX X E) :
    OpR X (compareOp .NotIn) (rNotInO C sp E) := by
  intro pins s σ H x y v u Q I rx ry h
  obtain ⟨a, dx, fs, rfl, ha, q⟩ := h
  cases ry
  obtain ⟨_, J, _⟩ := ins_get I.hok ha
  obtain ⟨_, J, _⟩ := J.look
  obtain ⟨_, hF⟩ := I.fr
  refine PySem.W.notIn_K hF I.ok.mod.kin J hs hf (wpAny_mono (Ow.run_own F hr I.env0 hb hx I (vs := [.ref a, x]) (.cons rfl (.cons rx .nil)) q) (fun v s' hq => ?_) fun _ _ z => z)
  obtain ⟨w, H', I', rw', b, rfl, q'⟩ := hq
  cases rw'
  exact wpAny_truthy_bool ⟨.bl (!b), H', I', rfl, q'⟩
end
end Nn
namespace Sc
open PySem L2
abbrev sBag : Stmt := s__law_bag
abbrev sTake : Stmt := s__law_take
/-! ### drawn numbers -/
/-- all but b stands as before -/
def Off (b : Addr) (H H' : Hp) : Prop := ∀ c, c ≠ b → H' c = H c
/-- the bag's three numbers; at most N mixed numbers were taken so far -/
def BagAt (H : Hp) (b : Addr) (N : Nat) : Prop := ∃ l x c : Int, H b = some (.lst [.int l, .int x, .int c]) ∧ 0 ≤ l ∧ 0 ≤ x ∧ x < 6 * 10 ^ 18 ∧ 0 ≤ c ∧ c ≤ N
def spTake : Sp := fun vs H Q _ => ∃ (b : Addr) (m : Int) (N : Nat), vs = [.ref b, .int m] ∧ 1 ≤ m ∧ m < 1073741824 ∧ BagAt H b N ∧ N < 1000000 ∧
  ∀ (r : Int) (H' : Hp), 0 ≤ r → r < m → BagAt H' b (N + 1) → Off b H H' → Q (.int r) H'
theorem fmod_in {a m : Int} (h : 1 ≤ m) : 0 ≤ a.fmod m ∧ a.fmod m < m := by
  rw [Int.fmod_eq_emod_of_nonneg a (by omega)]
  exact ⟨Int.emod_nonneg _ (by omega), Int.emod_lt_of_pos _ (by omega)⟩
theorem fdiv_in {a m : Int} (h : 1 ≤ m) (ha : 0 ≤ a) : 0 ≤ a.fdiv m := by
  rw [Int.fdiv_eq_ediv_of_nonneg a (by omega)]
  exact Int.ediv_nonneg ha (by omega)
section
variable {P : Program} {w : World} {K : PySem.W.Frag} {mg : Str → Option Value} {base : Heap}
theorem scTake : FnScope ["_law_bag_here", "_law_many", "_law_digit", "_law_mixed_here"] ["_law_bag_here", "_law_many"] (defScope sTake) := ⟨rfl, rfl, rfl, by decide +kernel, rfl, by decide +kernel, by decide +kernel⟩
theorem sq_bd {c : Int} (h0 : 0 ≤ c) (h : c ≤ 1000001) : 0 ≤ 8081 * c * c ∧ 8081 * c * c ≤ 8081 * 1000001 * 1000001 := by
  have h1 : 0 ≤ 8081 * c := by omega
  refine ⟨Int.mul_nonneg h1 h0, ?_⟩
  exact Int.mul_le_mul (by omega) h h0 (by decide)
theorem ok_take {f : Addr} {fd : FuncData} (F : Fun K "_law_take" "_law_take" sTake f fd) : FnOk P w K mg base CX0 1 f fd ["_law_bag_here", "_law_many"] spTake := by
  refine F.ok scTake (fun vs H Q E h => ?_) (fun cdv A outer s H vs Q E hr h => ?_)
  · obtain ⟨b, m, N, rfl, _⟩ := h
    rfl
  · obtain ⟨b, m, N, rfl, m1, m2, ⟨l, x, c, hb, l0, x0, x1, c0, cN⟩, hN, k⟩ := h
    refine ⟨_, pss_cons (ps_if (pt_cmpR op_gt (pe_ix ix_list (pv 0) pe_int (fun _ _ => rfl)) pe_int (nomark _))
        (pss_cons (ps_set (i := 2) scTake.nd rfl (Or.inl rfl) (pe_op op_modN (pe_ix ix_list (pv 0) pe_int (fun _ _ => rfl)) (pv 1)))
        (pss_cons (ps_asg (pe_op op_fdivN (pe_ix ix_list (pv 0) pe_int (fun _ _ => rfl)) (pv 1)) (pg_sub (pv 0) pe_int set_list))
        (pss_one (ps_ret (pv 2))))) pss_nil)
      (pss_cons (ps_asg (pe_op op_add (pe_ix ix_list (pv 0) pe_int (fun _ _ => rfl)) pe_int) (pg_sub (pv 0) pe_int set_list))
      (pss_cons (ps_set (i := 3) scTake.nd rfl (Or.inl rfl) (pe_op op_mod (pe_op op_pow (pe_op op_add (pe_ix ix_list (pv 0) pe_int (fun _ _ => rfl))
          (pe_op op_mul (pe_op op_mul pe_int (pe_ix ix_list (pv 0) pe_int (fun _ _ => rfl))) (pe_ix ix_list (pv 0) pe_int (fun _ _ => rfl)))) pe_int) pe_int))
      (pss_one (ps_ret (pe_op op_modN (pe_op op_fdiv (pe_op op_mod (pe_op op_mul (pv 3) (pe_op op_add (pe_op op_fdiv (pv 3) pe_int) (pe_op op_mul pe_int (pe_ix ix_list (pv 0) pe_int (fun _ _ => rfl))))) pe_int) pe_int) (pv 1)))))), ?_⟩
    refine ⟨_, rfl, b, _, _, _, rfl, rfl, SqL.of hb, rfl, _, _, rfl, rfl, _, rfl, ?_⟩
    refine ite2 (fun hl => ?_) (fun hl => ?_)
    · have hl' : 0 < l := of_decide_eq_true hl
      refine ⟨_, rfl, b, _, _, _, rfl, rfl, SqL.of hb, rfl, _, rfl, _, _, rfl, rfl, by omega, ?_⟩
      refine ⟨_, rfl, b, _, _, _, rfl, rfl, SqL.of hb, rfl, _, rfl, _, _, rfl, rfl, ⟨by omega, by omega⟩, _, rfl, b, _, _, 0, rfl, rfl, hb, rfl, ?_⟩
      refine ⟨_, rfl, k _ _ (fmod_in m1).1 (fmod_in m1).2 ⟨_, x, c, upd_same, fdiv_in m1 l0, x0, x1, c0, by omega⟩ fun d hd => upd_ne hd⟩
    · obtain ⟨q0, q1⟩ := sq_bd (c := c + 1) (by omega) (by omega)
      refine ⟨_, rfl, b, _, _, _, rfl, rfl, SqL.of hb, rfl, _, _, rfl, rfl, _, rfl, b, _, _, 2, rfl, rfl, hb, rfl, ?_⟩
      have hb2 : (upd H b (.lst [.int l, .int x, .int (c + 1)])) b = some (.lst [.int l, .int x, .int (c + 1)]) := upd_same
      refine ⟨_, rfl, b, _, _, _, rfl, rfl, SqL.of hb2, rfl, _, rfl, b, _, _, _, rfl, rfl, SqL.of hb2, rfl, _, _, rfl, rfl, .inl ⟨by decide, by decide⟩, _, rfl, b, _, _, _, rfl, rfl, SqL.of hb2, rfl, _, _, rfl, rfl, .inr ⟨by omega, by omega⟩, _, _, rfl, rfl, _, _, rfl, rfl, ⟨by decide, by decide, by omega⟩, _, _, rfl, rfl, (by show (0 : Int) < 2147483563; decide), ?_⟩
      generalize hy : ((x + 8081 * (c + 1) * (c + 1)) ^ ((3 : Int)).toNat) % 2147483563 = y
      have y0 : 0 ≤ y := by rw [← hy]; exact Int.emod_nonneg _ (by decide)
      have y1 : y < 2147483563 := by rw [← hy]; exact Int.emod_lt_of_pos _ (by decide)
      refine ⟨_, rfl, _, rfl, _, _, rfl, rfl, ⟨by decide, by decide⟩, _, rfl, b, _, _, _, rfl, rfl, SqL.of hb2, rfl, _, _, rfl, rfl, .inl ⟨by decide, by decide⟩, _, _, rfl, rfl, _, _, rfl, rfl, .inl ⟨by omega, by omega⟩, _, _, rfl, rfl, (by show (0 : Int) < 2147483549; decide), _, _, rfl, rfl, ⟨by decide, by decide⟩, _, rfl, _, _, rfl, rfl, by omega, ?_⟩
      exact k _ _ (fmod_in m1).1 (fmod_in m1).2 ⟨l, x, c + 1, hb2, l0, x0, x1, by omega, by omega⟩ fun d hd => upd_ne hd
end
/-- what the walk asks of the built-ins -/
structure TB (mg : Str → Option Value) : Prop where
  len : mg "len" = none
  abs : mg "abs" = none
  range : mg "range" = none
  min : mg "min" = none
  max : mg "max" = none
  list : mg "list" = none
  sum : mg "sum" = none
  all : mg "all" = none
theorem at_int {xs : List Int} {i : Int} (h0 : 0 ≤ i) (h1 : i < xs.length) : atI (xs.map V.int) i = some (.int (xs.getD i.toNat 0)) := by
  refine at_of (j := i.toNat) (by omega) ?_
  have q : i.toNat < xs.length := by omega
  rw [List.getElem?_map, List.getD_eq_getElem?_getD, List.getElem?_eq_getElem q]
  rfl
theorem eqv_self {d : PyData} (h : SeqAt.shaped d = true) : PyData.eqv d d = true := SeqAt.eqv_refl _ (SeqAt.canLay_of_shaped h)
abbrev g0 (l : List Int) (i : Nat) : Int := l.getD i 0
def dInts (xs : List Int) : PyData := .list (xs.map .int)
theorem canlay_ints : ∀ xs : List Int, PyData.canLayAll0 (xs.map .int) = true
  | [] => rfl
  | x :: xs => by
    rw [List.map_cons, PyData.canLayAll0, canlay_ints xs, PyData.canLay0]
    rfl
theorem depth_ints : ∀ xs : List Int, PyData.depthAll (xs.map .int) = 0
  | [] => rfl
  | x :: xs => by
    rw [List.map_cons, PyData.depthAll, depth_ints xs, PyData.depth]
    rfl
theorem shaped_ints (xs : List Int) : SeqAt.shaped (dInts xs) = true := by
  unfold SeqAt.shaped dInts
  rw [PyData.canLay0, canlay_ints, PyData.depth, depth_ints]
  rfl
theorem dpall_ints {K : PySem.W.Frag} {H : Hp} : ∀ xs : List Int, DpAll K H (xs.map V.int) (xs.map .int)
  | [] => .nil
  | x :: xs => .cons (.int x) (dpall_ints xs)
theorem dp_ints {K : PySem.W.Frag} {H : Hp} {a : Addr} {xs : List Int} (h : SqL K H a (xs.map V.int)) : Dp K H (.ref a) (dInts xs) := .lst h (dpall_ints xs)
theorem eqv_ints (xs : List Int) : PyData.eqv (dInts xs) (dInts xs) = true := eqv_self (shaped_ints xs)
def spBag (K : PySem.W.Frag) : Sp := fun vs H Q _ => ∃ (a : Addr) (ns : List Int) (i : Int), vs = [.ref a, .int i] ∧ SqL K H a (ns.map V.int) ∧ ns.length ≤ 63 ∧ 0 ≤ i ∧ i ≤ 63 ∧
  ∀ (p : Addr) (H' : Hp), H p = none → BagAt H' p 0 → Off p H H' → Q (.ref p) H'
section
variable {P : Program} {w : World} {K : PySem.W.Frag} {mg : Str → Option Value} {base : Heap}
theorem scBag : FnScope ["_law_script", "_law_at", "_law_number", "_law_large"] ["_law_script", "_law_at"] (defScope sBag) := ⟨rfl, rfl, rfl, by decide +kernel, rfl, by decide +kernel, by decide +kernel⟩
theorem ok_bag {f : Addr} {fd : FuncData} (F : Fun K "_law_bag" "_law_bag" sBag f fd) (T : TB mg) : FnOk P w K mg base CX0 1 f fd ["_law_script", "_law_at"] (spBag K) := by
  refine F.ok scBag (fun vs H Q E h => ?_) (fun cdv A outer s H vs Q E hr h => ?_)
  · obtain ⟨a, ns, i, rfl, _⟩ := h
    rfl
  · obtain ⟨a, ns, i, rfl, hS, hl, i0, i1, k⟩ := h
    refine ⟨_, pss_cons (ps_set (i := 2) scBag.nd rfl (Or.inl rfl) (pe_ifExp (pt_cmpR op_lt (pv 1) (pe_callB call_len_seq (by rfl) T.len PySem.boot_len (pa_cons (pv 0) pa_nil)) (nomark _)) (pe_ix ix_list (pv 0) (pv 1) (fun _ _ => rfl)) pe_int))
      (pss_cons (ps_set (i := 3) scBag.nd rfl (Or.inl rfl) (pe_ifExp (pt_cmpR op_ge (pe_callB call_abs (by rfl) T.abs (by decide +kernel) (pa_cons (pv 2) pa_nil)) (pe_op op_pow pe_int pe_int) (nomark _)) (pe_callB call_abs (by rfl) T.abs (by decide +kernel) (pa_cons (pv 2) pa_nil)) pe_int))
      (pss_one (ps_ret (pe_lst (pa_cons (pv 3) (pa_cons (pe_op op_add (pe_op op_add (pe_op op_mul (pe_op op_modN (pv 2) (pe_op op_add (pe_op op_pow pe_int pe_int) pe_int)) pe_int) (pe_op op_mul pe_int (pv 1))) pe_int) (pa_cons pe_int pa_nil))))))), ?_⟩
    refine ⟨_, rfl, _, rfl, a, _, rfl, .inl hS, _, _, rfl, rfl, _, rfl, ?_⟩
    have hw : ∀ z : Int, 0 ≤ z.fmod (10 ^ 18 + 9) * 5 + 7793 * i + 613 ∧ z.fmod (10 ^ 18 + 9) * 5 + 7793 * i + 613 < 6 * 10 ^ 18 := fun z => by
      obtain ⟨q1, q2⟩ := fmod_in (a := z) (m := 10 ^ 18 + 9) (by decide)
      omega
    have ha : ∀ z : Int, 0 ≤ (if z < 0 then -z else z) := fun z => by
      by_cases q : z < 0
      · rw [if_pos q]; omega
      · rw [if_neg q]; omega
    refine ite2 (fun h1 => ?_) (fun h1 => ?_)
    · have h2 : i < ((ns.map V.int).length : Int) := of_decide_eq_true h1
      rw [List.length_map] at h2
      have hn : i.toNat < ns.length := by omega
      refine ⟨_, rfl, _, rfl, a, _, _, .int ns[i.toNat], rfl, rfl, hS, ?_, ?_⟩
      · refine at_of (j := i.toNat) (by omega) ?_
        rw [List.getElem?_map, List.getElem?_eq_getElem hn] <;> rfl
      refine ⟨_, rfl, _, rfl, _, _, rfl, rfl, ⟨by decide, by decide, by decide⟩, _, _, rfl, rfl, _, rfl, ?_⟩
      refine ite2 (fun h3 => ?_) (fun h3 => ?_)
      · refine ⟨_, rfl, _, rfl, ?_⟩
        refine ⟨_, rfl, _, rfl, _, _, rfl, rfl, ⟨by decide, by decide, by decide⟩, _, _, rfl, rfl, _, _, rfl, rfl, (by show (10 ^ Int.toNat 18 + 9 : Int) ≠ 0; decide), _, _, rfl, rfl, .inr ⟨by decide, by decide⟩, _, rfl, _, _, rfl, rfl, .inl ⟨by decide, by decide⟩, _, _, rfl, rfl, _, _, rfl, rfl, (by show 3 ≤ sizeLine; decide), fun p hp => ?_⟩
        exact k p _ hp ⟨_, _, 0, upd_same, ha _, (hw _).1, (hw _).2, Int.le_refl _, Int.le_refl _⟩ fun c hc => upd_ne hc
      · refine ⟨_, rfl, _, rfl, _, _, rfl, rfl, ⟨by decide, by decide, by decide⟩, _, _, rfl, rfl, _, _, rfl, rfl, (by show (10 ^ Int.toNat 18 + 9 : Int) ≠ 0; decide), _, _, rfl, rfl, .inr ⟨by decide, by decide⟩, _, rfl, _, _, rfl, rfl, .inl ⟨by decide, by decide⟩, _, _, rfl, rfl, _, _, rfl, rfl, (by show 3 ≤ sizeLine; decide), fun p hp => ?_⟩
        exact k p _ hp ⟨_, _, 0, upd_same, Int.le_refl _, (hw _).1, (hw _).2, Int.le_refl _, Int.le_refl _⟩ fun c hc => upd_ne hc
    · refine ⟨_, rfl, _, rfl, _, _, rfl, rfl, ⟨by decide, by decide, by decide⟩, _, _, rfl, rfl, _, rfl, ?_⟩
      refine ite2 (fun h3 => ?_) (fun h3 => ?_)
      · refine ⟨_, rfl, _, rfl, ?_⟩
        refine ⟨_, rfl, _, rfl, _, _, rfl, rfl, ⟨by decide, by decide, by decide⟩, _, _, rfl, rfl, _, _, rfl, rfl, (by show (10 ^ Int.toNat 18 + 9 : Int) ≠ 0; decide), _, _, rfl, rfl, .inr ⟨by decide, by decide⟩, _, rfl, _, _, rfl, rfl, .inl ⟨by decide, by decide⟩, _, _, rfl, rfl, _, _, rfl, rfl, (by show 3 ≤ sizeLine; decide), fun p hp => ?_⟩
        exact k p _ hp ⟨_, _, 0, upd_same, ha _, (hw _).1, (hw _).2, Int.le_refl _, Int.le_refl _⟩ fun c hc => upd_ne hc
      · refine ⟨_, rfl, _, rfl, _, _, rfl, rfl, ⟨by decide, by decide, by decide⟩, _, _, rfl, rfl, _, _, rfl, rfl, (by show (10 ^ Int.toNat 18 + 9 : Int) ≠ 0; decide), _, _, rfl, rfl, .inr ⟨by decide, by decide⟩, _, rfl, _, _, rfl, rfl, .inl ⟨by decide, by decide⟩, _, _, rfl, rfl, _, _, rfl, rfl, (by show 3 ≤ sizeLine; decide), fun p hp => ?_⟩
        exact k p _ hp ⟨_, _, 0, upd_same, Int.le_refl _, (hw _).1, (hw _).2, Int.le_refl _, Int.le_refl _⟩ fun c hc => upd_ne hc
end
end Sc
namespace Sc
open PySem L2
/-- what was there stands, but for b -/
def OffN (b : Addr) (H H' : Hp) : Prop := ∀ c, H c ≠ none → c ≠ b → H' c = H c
theorem OffN.refl {b : Addr} {H : Hp} : OffN b H H := fun _ _ _ => rfl
theorem OffN.put {b l : Addr} {H H' : Hp} {o : HO} (h : OffN b H H') (hl : H l = none) : OffN b H (upd H' l o) := fun c hc hb => by
  rw [upd_ne (fun z => hc (by rw [z]; exact hl))]
  exact h c hc hb
theorem OffN.step {b : Addr} {H H' H'' : Hp} (h : OffN b H H') (o : Off b H' H'') : OffN b H H'' := fun c hc hb => (o c hb).trans (h c hc hb)
theorem OffN.same {b : Addr} {H H' : Hp} (h : OffN b H H') {c : Addr} {o : HO} (e : H c = some o) (hb : c ≠ b) : H' c = some o := (h c (by rw [e]; simp) hb).trans e
theorem OffN.free {b : Addr} {H H' : Hp} (h : OffN b H H') {c : Addr} (e : H' c = none) (hb : c ≠ b) : H c = none := by
  cases z : H c with
  | none => rfl
  | some o => rw [h.same z hb] at e; cases e
theorem BagAt.le {H : Hp} {b : Addr} {N M : Nat} (h : BagAt H b N) (hn : N ≤ M) : BagAt H b M := by
  obtain ⟨l, x, c, e, a1, a2, a3, a4, a5⟩ := h
  exact ⟨l, x, c, e, a1, a2, a3, a4, by omega⟩
theorem BagAt.put {H : Hp} {b l : Addr} {N : Nat} {o : HO} (h : BagAt H b N) (hl : b ≠ l) : BagAt (upd H l o) b N := by
  obtain ⟨l', x, c, e, r⟩ := h
  exact ⟨l', x, c, by rw [upd_ne hl]; exact e, r⟩
theorem BagAt.ne {H : Hp} {b l : Addr} {N : Nat} (h : BagAt H b N) (hl : H l = none) : b ≠ l := fun z => by
  obtain ⟨_, _, _, e, _⟩ := h
  rw [z, hl] at e
  cases e
theorem BagAt.sameN {H H' : Hp} {b : Addr} {N : Nat} (h : BagAt H b N) (k : Same H H') : BagAt H' b N := by
  obtain ⟨l, x, c, e, r⟩ := h
  exact ⟨l, x, c, k _ _ e, r⟩
theorem offN_same {b : Addr} {H H' : Hp} (k : Same H H') : OffN b H H' := fun c hc _ => by
  cases h : H c with
  | none => exact absurd h hc
  | some o => exact k _ _ h
theorem offN_of {b : Addr} {H H' : Hp} (k : Off b H H') : OffN b H H' := fun c _ hb => k c hb
theorem offN_put {b l : Addr} {H : Hp} {o : HO} (h : H l = none) : OffN b H (upd H l o) := offN_same (put_same h)
theorem OffN.trans {b : Addr} {H H' H'' : Hp} (h : OffN b H H') (k : OffN b H' H'') : OffN b H H'' := fun c hc hb => (k c (by rw [h c hc hb]; exact hc) hb).trans (h c hc hb)
end Sc
/-! What a comprehension without a test has made so far: values that a function gives, or new tuples of such. -/
namespace Sc
open PySem L2
theorem range_map_succ {α : Type} (v : Nat → α) (i : Nat) : (List.range (i + 1)).map v = (List.range i).map v ++ [v i] := by rw [List.range_succ, List.map_append]; rfl
def PFlat (H1 : Hp) (D : Addr) (v : Nat → V) (i : Nat) (H' : Hp) : Prop := Same H1 H' ∧ H' D = some (.lst ((List.range i).map v))
def PTup (H1 : Hp) (D : Addr) (v : Nat → List V) (i : Nat) (H' : Hp) : Prop := ∃ ps : List Addr, Same H1 H' ∧ H' D = some (.lst (ps.map V.ref)) ∧ ps.length = i ∧ ∀ (j : Nat) (t : Addr), ps[j]? = some t → H' t = some (.tup (v j))
section
variable {H1 H' H4 : Hp} {D : Addr} {i : Nat}
theorem PFlat.zero {v : Nat → V} (nD : H1 D = none) : PFlat H1 D v 0 (upd H1 D (.lst [])) := ⟨put_same nD, upd_same⟩
theorem PTup.zero {v : Nat → List V} (nD : H1 D = none) : PTup H1 D v 0 (upd H1 D (.lst [])) := ⟨[], put_same nD, upd_same, rfl, fun j t z => by simp at z⟩
theorem PFlat.next {v : Nat → V} (p : PFlat H1 D v i H') (nD : H1 D = none) (hi : i < 1000) (s : Same H' H4) : ∃ acc, H4 D = some (.lst acc) ∧ acc.length < sizeLine ∧ PFlat H1 D v (i + 1) (upd H4 D (.lst (acc ++ [v i]))) := by
  refine ⟨_, s _ _ p.2, ?_, fun c o e => ?_, by rw [upd_same, range_map_succ]⟩
  · rw [List.length_map, List.length_range]
    exact Nat.lt_of_lt_of_le hi (by decide)
  · rw [upd_ne (ne_of_none e nD)]
    exact s _ _ (p.1 _ _ e)
theorem PTup.next {v : Nat → List V} (p : PTup H1 D v i H') (nD : H1 D = none) (hi : i < 1000) {t : Addr} (nt : H' t = none) : ∃ acc, (upd H' t (.tup (v i))) D = some (.lst acc) ∧ acc.length < sizeLine ∧ PTup H1 D v (i + 1) (upd (upd H' t (.tup (v i))) D (.lst (acc ++ [.ref t]))) := by
  obtain ⟨ps, q1, q2, q3, q4⟩ := p
  have sA := put_same (o := .tup (v i)) nt
  have tD : t ≠ D := fun z => by rw [z, q2] at nt; cases nt
  refine ⟨_, sA _ _ q2, ?_, ps ++ [t], fun c o e => ?_, by rw [upd_same, List.map_append]; rfl, by rw [List.length_append, q3]; rfl, fun j u hj => ?_⟩
  · rw [List.length_map, q3]
    exact Nat.lt_of_lt_of_le hi (by decide)
  · rw [upd_ne (ne_of_none e nD)]
    exact sA _ _ (q1 _ _ e)
  · by_cases hji : j < ps.length
    · rw [List.getElem?_append_left hji] at hj
      have e := q4 j u hj
      rw [upd_ne (fun z => by rw [z, q2] at e; cases e)]
      exact sA _ _ e
    · rw [List.getElem?_append_right (by omega)] at hj
      have e0 : j - ps.length = 0 := by
        have := (List.getElem?_eq_some_iff.mp hj).1
        simp at this
        omega
      rw [e0] at hj
      cases hj
      have ej : j = i := by omega
      rw [ej, upd_ne tD, upd_same]
end
end Sc
/-! Lists of free pages, windows, counts. -/
namespace Sm
def freeB (n : Int) (ts : List (Int × Int)) : List Bool := (List.range n.toNat).map fun (i : Nat) => decide (Fr ts (i : Int))
theorem freeB_len (n : Int) (ts : List (Int × Int)) : (freeB n ts).length = n.toNat := by unfold freeB; rw [List.length_map, List.length_range]
theorem freeB_at {n : Int} {ts : List (Int × Int)} {i : Nat} (h : i < n.toNat) : (freeB n ts)[i]? = some (decide (Fr ts (i : Int))) := by
  unfold freeB
  rw [List.getElem?_map, List.getElem?_range h]
  rfl
def wnB (bs : List Bool) (p s : Int) : Bool := ((bs.drop p.toNat).take s.toNat).all id
theorem wn_free {n p s : Int} {ts : List (Int × Int)} (p0 : 0 ≤ p) (s0 : 0 ≤ s) (h : p + s ≤ n) : wnB (freeB n ts) p s = true ↔ ∀ q, p ≤ q → q < p + s → Fr ts q := by
  unfold wnB
  rw [List.all_eq_true]
  constructor
  · intro hq q q0 q1
    have hi : q.toNat < n.toNat := by omega
    have e := freeB_at (ts := ts) hi
    have : decide (Fr ts ((q.toNat : Nat) : Int)) ∈ ((freeB n ts).drop p.toNat).take s.toNat := by
      refine List.mem_of_getElem? (i := q.toNat - p.toNat) ?_
      rw [List.getElem?_take_of_lt (by omega), List.getElem?_drop, show p.toNat + (q.toNat - p.toNat) = q.toNat by omega]
      exact e
    have h2 := hq _ this
    have h3 : ((q.toNat : Nat) : Int) = q := by omega
    rw [h3] at h2
    exact of_decide_eq_true h2
  · intro hq x hx
    obtain ⟨i, hi, e⟩ := List.getElem_of_mem hx
    rw [List.getElem_take, List.getElem_drop] at e
    rw [List.length_take, List.length_drop, freeB_len] at hi
    have h2 := freeB_at (n := n) (ts := ts) (i := p.toNat + i) (by omega)
    rw [List.getElem?_eq_getElem (by rw [freeB_len]; omega)] at h2
    have h3 := Option.some.inj h2
    rw [e] at h3
    rw [h3]
    exact decide_eq_true (hq _ (by omega) (by omega))
/-- the least multiple of s from which s pages are free -/
def Least (n : Int) (ts : List (Int × Int)) (s : Int) : Option Int → Prop
  | none => ∀ p, 0 ≤ p → p % s = 0 → p + s ≤ n → ¬ ∀ q, p ≤ q → q < p + s → Fr ts q
  | some c => 0 ≤ c ∧ c % s = 0 ∧ c + s ≤ n ∧ (∀ q, c ≤ q → q < c + s → Fr ts q) ∧ ∀ p, 0 ≤ p → p % s = 0 → p + s ≤ n → (∀ q, p ≤ q → q < p + s → Fr ts q) → c ≤ p
theorem least_uniq {n s : Int} {ts : List (Int × Int)} : ∀ {o o' : Option Int}, Least n ts s o → Least n ts s o' → o = o'
  | none, none, _, _ => rfl
  | none, some c, h, h' => absurd h'.2.2.2.1 (h c h'.1 h'.2.1 h'.2.2.1)
  | some c, none, h, h' => absurd h.2.2.2.1 (h' c h.1 h.2.1 h.2.2.1)
  | some c, some d, h, h' => by
    have h1 := h.2.2.2.2 d h'.1 h'.2.1 h'.2.2.1 h'.2.2.2.1
    have h2 := h'.2.2.2.2 c h.1 h.2.1 h.2.2.1 h.2.2.2.1
    rw [show c = d by omega]
theorem mul_of {p s : Int} (s1 : 1 ≤ s) (h : p % s = 0) : p / s * s = p := by
  have := Int.ediv_mul_add_emod p s
  omega
theorem least_beg {n s : Int} {ts : List (Int × Int)} (n0 : 0 ≤ n) (s1 : 1 ≤ s) :
    Least n ts s ((((List.range ((((freeB n ts).length : Int) - s) / s + 1).toNat).map fun (i : Nat) => (i : Int) * s).filter fun p => wnB (freeB n ts) p s).head?) := by
  rw [freeB_len, show ((n.toNat : Nat) : Int) = n by omega, List.head?_filter, List.find?_map]
  have bnd : ∀ i : Nat, i < ((n - s) / s + 1).toNat → (i : Int) * s + s ≤ n := fun i hi => by
    by_cases q : n - s < 0
    · have := Int.ediv_neg_of_neg_of_pos q (show 0 < s by omega)
      omega
    · have h1 := Int.ediv_mul_le (n - s) (show s ≠ 0 by omega)
      have h2 := Int.mul_le_mul_of_nonneg_right (show (i : Int) ≤ (n - s) / s by omega) (show 0 ≤ s by omega)
      omega
  have idx : ∀ p, 0 ≤ p → p % s = 0 → p + s ≤ n → ∃ i : Nat, i < ((n - s) / s + 1).toNat ∧ (i : Int) * s = p := fun p p0 pm pn => by
    have h0 : 0 ≤ p / s := Int.ediv_nonneg p0 (by omega)
    have h1 : p / s ≤ (n - s) / s := Int.ediv_le_ediv (by omega) (by omega)
    exact ⟨(p / s).toNat, by omega, by rw [show (((p / s).toNat : Nat) : Int) = p / s by omega]; exact mul_of s1 pm⟩
  cases e : (List.range ((n - s) / s + 1).toNat).find? ((fun p => wnB (freeB n ts) p s) ∘ fun (i : Nat) => (i : Int) * s) with
  | none =>
    intro p p0 pm pn hw
    obtain ⟨i, hi, rfl⟩ := idx p p0 pm pn
    have := List.find?_eq_none.mp e i (List.mem_range.mpr hi)
    exact this ((wn_free p0 (by omega) pn).mpr hw)
  | some i =>
    obtain ⟨h1, h2, h3⟩ := List.find?_range_eq_some.mp e
    have hi := List.mem_range.mp h2
    have hb := bnd i hi
    have h0 : 0 ≤ (i : Int) * s := Int.mul_nonneg (by omega) (by omega)
    refine ⟨h0, Int.mul_emod_left _ _, hb, (wn_free h0 (by omega) hb).mp h1, fun p p0 pm pn hw => ?_⟩
    obtain ⟨j, hj, rfl⟩ := idx p p0 pm pn
    by_cases q : (i : Int) ≤ j
    · exact Int.mul_le_mul_of_nonneg_right q (by omega)
    · have := h3 j (by omega)
      have h4 : wnB (freeB n ts) ((j : Int) * s) s = true := (wn_free p0 (by omega) pn).mpr hw
      simp [h4] at this
/-! ### how many pages are free -/
theorem cnt_iv : ∀ (N : Nat) (a b : Int), 0 ≤ a → a ≤ b → b ≤ N → ((List.range N).countP fun (i : Nat) => decide (a ≤ (i : Int) ∧ (i : Int) < b)) = (b - a).toNat
  | 0, a, b, h0, h1, h2 => by
    simp
    omega
  | N + 1, a, b, h0, h1, h2 => by
    rw [List.range_succ, List.countP_append, List.countP_singleton]
    by_cases q : b ≤ N
    · rw [cnt_iv N a b h0 h1 q, if_neg (by simp; omega)]
      omega
    · by_cases q2 : a ≤ N
      · have e : ((List.range N).countP fun (i : Nat) => decide (a ≤ (i : Int) ∧ (i : Int) < b)) = ((List.range N).countP fun (i : Nat) => decide (a ≤ (i : Int) ∧ (i : Int) < (N : Int))) := by
          refine List.countP_congr fun i hi => ?_
          have := List.mem_range.mp hi
          simp
          omega
        rw [e, cnt_iv N a N h0 q2 (Int.le_refl _), if_pos (by simp; omega)]
        omega
      · have e : ((List.range N).countP fun (i : Nat) => decide (a ≤ (i : Int) ∧ (i : Int) < b)) = 0 := by
          refine List.countP_eq_zero.mpr fun i hi => ?_
          have := List.mem_range.mp hi
          simp
          omega
        rw [e, if_neg (by simp; omega)]
        omega
theorem cnt_split {α : Type} (p q : α → Bool) : ∀ l : List α, l.countP p = l.countP (fun x => p x && q x) + l.countP (fun x => p x && !q x)
  | [] => rfl
  | x :: r => by
    rw [List.countP_cons, List.countP_cons, List.countP_cons, cnt_split p q r]
    cases p x <;> cases q x <;> simp <;> omega
theorem cnt_free {n : Int} (n0 : 0 ≤ n) : ∀ {ts : List (Int × Int)}, Tk n ts → (((List.range n.toNat).countP fun (i : Nat) => decide (Fr ts (i : Int)) : Nat) : Int) = n - (ts.map (·.2)).sum
  | [], _ => by
    have : ((List.range n.toNat).countP fun (i : Nat) => decide (Fr [] (i : Int))) = (List.range n.toNat).length := List.countP_eq_length.mpr fun i _ => by simp [Fr]
    rw [this, List.length_range]
    simp
    omega
  | x :: ts, T => by
    have T' : Tk n ts := ⟨fun z hz => T.ok z (List.mem_cons_of_mem _ hz), (List.pairwise_cons.mp T.dj).2⟩
    have ox := T.ok x (List.mem_cons_self ..)
    have ih := cnt_free n0 T'
    have hs := cnt_split (fun (i : Nat) => decide (Fr ts (i : Int))) (fun (i : Nat) => decide (In x (i : Int))) (List.range n.toNat)
    have e1 : ((List.range n.toNat).countP fun (i : Nat) => decide (Fr ts (i : Int)) && decide (In x (i : Int))) = x.2.toNat := by
      have := cnt_iv n.toNat x.1 (x.1 + x.2) (by omega) (by omega) (by omega)
      rw [show (x.1 + x.2 - x.1).toNat = x.2.toNat by omega] at this
      rw [← this]
      refine List.countP_congr fun i hi => ?_
      have hI : (In x (i : Int)) ↔ (x.1 ≤ (i : Int) ∧ (i : Int) < x.1 + x.2) := Iff.rfl
      simp only [Bool.and_eq_true, decide_eq_true_eq, hI]
      constructor
      · exact fun h => h.2
      · refine fun h => ⟨fun y hy z => ?_, h⟩
        have := (List.pairwise_cons.mp T.dj).1 y hy
        obtain ⟨z1, z2⟩ := z
        omega
    have e2 : ((List.range n.toNat).countP fun (i : Nat) => decide (Fr ts (i : Int)) && !decide (In x (i : Int))) = ((List.range n.toNat).countP fun (i : Nat) => decide (Fr (x :: ts) (i : Int))) := by
      refine List.countP_congr fun i hi => ?_
      simp only [Bool.and_eq_true, Bool.not_eq_true', decide_eq_true_eq, decide_eq_false_iff_not]
      constructor
      · rintro ⟨h1, h2⟩ y hy
        rcases List.mem_cons.mp hy with rfl | hy
        · exact h2
        · exact h1 y hy
      · exact fun h => ⟨fun y hy => h y (List.mem_cons_of_mem _ hy), h x (List.mem_cons_self ..)⟩
    rw [e1, e2] at hs
    rw [List.map_cons, List.sum_cons]
    omega
theorem sum_free {n : Int} (n0 : 0 ≤ n) {ts : List (Int × Int)} (T : Tk n ts) : ((freeB n ts).map fun b => (if b then 1 else 0 : Int)).sum = n - (ts.map (·.2)).sum := by
  rw [← cnt_free n0 T]
  have : ∀ l : List Nat, ((l.map fun (i : Nat) => decide (Fr ts (i : Int))).map fun b => (if b then 1 else 0 : Int)).sum = ((l.countP fun (i : Nat) => decide (Fr ts (i : Int)) : Nat) : Int) := fun l => by
    induction l with
    | nil => rfl
    | cons x r ih =>
      rw [List.map_cons, List.map_cons, List.sum_cons, ih, List.countP_cons]
      by_cases q : Fr ts (x : Int)
      · simp [q]; omega
      · simp [q]
  exact this _
/-! ### the pages of the holes -/
theorem asc_eq : ∀ {l l' : List Int}, l.Pairwise (· < ·) → l'.Pairwise (· < ·) → (∀ x, x ∈ l ↔ x ∈ l') → l = l'
  | [], [], _, _, _ => rfl
  | [], y :: r, _, _, h => absurd ((h y).mpr (List.mem_cons_self ..)) (by simp)
  | x :: r, [], _, _, h => absurd ((h x).mp (List.mem_cons_self ..)) (by simp)
  | x :: r, y :: r', h1, h2, h => by
    have p1 := List.pairwise_cons.mp h1
    have p2 := List.pairwise_cons.mp h2
    have e : x = y := by
      have a := (h x).mp (List.mem_cons_self ..)
      have b := (h y).mpr (List.mem_cons_self ..)
      rcases List.mem_cons.mp a with a | a
      · exact a
      rcases List.mem_cons.mp b with b | b
      · exact b.symm
      have := p1.1 y b
      have := p2.1 x a
      omega
    subst e
    rw [asc_eq p1.2 p2.2 fun z => ?_]
    constructor
    · intro hz
      rcases List.mem_cons.mp ((h z).mp (List.mem_cons_of_mem _ hz)) with q | q
      · have := p1.1 z hz; omega
      · exact q
    · intro hz
      rcases List.mem_cons.mp ((h z).mpr (List.mem_cons_of_mem _ hz)) with q | q
      · have := p2.1 z hz; omega
      · exact q
def iv (f : Int) (n : Nat) : List Int := (List.range n).map fun (j : Nat) => f + (j : Int)
def pg (L : List (Int × Int)) : List Int := L.flatMap fun x => iv x.1 x.2.toNat
theorem mem_iv {f : Int} {n : Nat} {p : Int} : p ∈ iv f n ↔ f ≤ p ∧ p < f + n := by
  unfold iv
  rw [List.mem_map]
  constructor
  · rintro ⟨j, hj, rfl⟩
    have := List.mem_range.mp hj
    omega
  · intro h
    exact ⟨(p - f).toNat, List.mem_range.mpr (by omega), by omega⟩
theorem asc_iv (f : Int) (n : Nat) : (iv f n).Pairwise (· < ·) := by
  unfold iv
  refine List.pairwise_map.mpr (List.Pairwise.imp (fun {a b} h => ?_) List.pairwise_lt_range)
  omega
theorem pg_asc : ∀ {L : List (Int × Int)}, (∀ x ∈ L, 1 ≤ x.2) → L.Pairwise (fun x y => x.1 + x.2 < y.1) → (pg L).Pairwise (· < ·)
  | [], _, _ => .nil
  | x :: r, h, hp => by
    have p := List.pairwise_cons.mp hp
    unfold pg
    rw [List.flatMap_cons]
    refine List.pairwise_append.mpr ⟨asc_iv _ _, pg_asc (fun y hy => h y (List.mem_cons_of_mem _ hy)) p.2, fun a ha b hb => ?_⟩
    have hx := h x (List.mem_cons_self ..)
    have a1 := mem_iv.mp ha
    obtain ⟨y, hy, hb⟩ := List.mem_flatMap.mp hb
    have b1 := mem_iv.mp hb
    have := p.1 y hy
    omega
def frp (n : Int) (ts : List (Int × Int)) : List Int := ((List.range n.toNat).map fun (i : Nat) => (i : Int)).filter fun p => decide (Fr ts p)
theorem pg_free {n : Int} {ts L : List (Int × Int)} (n0 : 0 ≤ n) (h : HL n ts L) : pg L = frp n ts := by
  refine asc_eq (pg_asc (fun x hx => (h.ok x hx).2.1) h.up) ?_ fun p => ?_
  · exact (List.pairwise_map.mpr (List.Pairwise.imp (fun {a b} q => by omega) List.pairwise_lt_range)).sublist List.filter_sublist
  · unfold pg frp
    rw [List.mem_flatMap, List.mem_filter, List.mem_map]
    constructor
    · rintro ⟨x, hx, hp⟩
      have ox := h.ok x hx
      have hp := mem_iv.mp hp
      have hi : In x p := ⟨by omega, by omega⟩
      exact ⟨⟨p.toNat, List.mem_range.mpr (by omega), by omega⟩, decide_eq_true ((h.iff p (by omega) (by omega)).mpr ⟨x, hx, hi⟩)⟩
    · rintro ⟨⟨i, hi, rfl⟩, hf⟩
      have hi := List.mem_range.mp hi
      obtain ⟨x, hx, h1, h2⟩ := (h.iff i (by omega) (by omega)).mp (of_decide_eq_true hf)
      exact ⟨x, hx, mem_iv.mpr ⟨h1, by omega⟩⟩
theorem freeB_snoc (n : Int) (ts : List (Int × Int)) (x : Int × Int) : freeB n (ts ++ [x]) = (List.range n.toNat).map fun (i : Nat) => decide (Fr ts (i : Int)) && !decide (In x (i : Int)) := by
  unfold freeB
  refine List.map_congr_left fun i _ => ?_
  have := fr_snoc (ts := ts) (x := x) (p := (i : Int))
  by_cases h1 : Fr ts (i : Int) <;> by_cases h2 : In x (i : Int) <;> simp [this, h1, h2]
theorem freeB_del {n N : Int} {ts : List (Int × Int)} (T : Tk N ts) {x : Int × Int} (hx : x ∈ ts) : freeB n (del ts x.1) = (List.range n.toNat).map fun (i : Nat) => decide (Fr ts (i : Int)) || decide (In x (i : Int)) := by
  unfold freeB
  refine List.map_congr_left fun i _ => ?_
  have := fr_del T hx (p := (i : Int))
  by_cases h1 : Fr ts (i : Int) <;> by_cases h2 : In x (i : Int) <;> simp [this, h1, h2]
end Sm
/-! Holes: there is one list of them; how they are found in a list of free pages. -/
namespace Sm
theorem cover_uniq : ∀ {L L' : List (Int × Int)}, (∀ x ∈ L, 1 ≤ x.2) → (∀ x ∈ L', 1 ≤ x.2) → L.Pairwise (fun x y => x.1 + x.2 < y.1) → L'.Pairwise (fun x y => x.1 + x.2 < y.1) → (∀ p, (∃ x ∈ L, In x p) ↔ ∃ x ∈ L', In x p) → L = L'
  | [], [], _, _, _, _, _ => rfl
  | [], y :: r, _, h2, _, _, hc => by
    have := h2 y (List.mem_cons_self ..)
    obtain ⟨x, hx, _⟩ := (hc y.1).mpr ⟨y, List.mem_cons_self .., ⟨Int.le_refl _, by omega⟩⟩
    simp at hx
  | x :: r, [], h1, _, _, _, hc => by
    have := h1 x (List.mem_cons_self ..)
    obtain ⟨y, hy, _⟩ := (hc x.1).mp ⟨x, List.mem_cons_self .., ⟨Int.le_refl _, by omega⟩⟩
    simp at hy
  | x :: r, y :: r', h1, h2, p1, p2, hc => by
    have q1 := List.pairwise_cons.mp p1
    have q2 := List.pairwise_cons.mp p2
    have x2 := h1 x (List.mem_cons_self ..)
    have y2 := h2 y (List.mem_cons_self ..)
    have e1 : x.1 = y.1 := by
      obtain ⟨z, hz, z1, z2⟩ := (hc x.1).mp ⟨x, List.mem_cons_self .., ⟨Int.le_refl _, by omega⟩⟩
      obtain ⟨u, hu, u1, u2⟩ := (hc y.1).mpr ⟨y, List.mem_cons_self .., ⟨Int.le_refl _, by omega⟩⟩
      rcases List.mem_cons.mp hz with ez | hz <;> rcases List.mem_cons.mp hu with eu | hu
      · subst ez; subst eu; omega
      · subst ez; have := q1.1 u hu; omega
      · subst eu; have := q2.1 z hz; omega
      · have := q1.1 u hu; have := q2.1 z hz; omega
    have e2 : x.2 = y.2 := by
      by_cases a : x.1 + x.2 < y.1 + y.2
      · obtain ⟨z, hz, z1, z2⟩ := (hc (x.1 + x.2)).mpr ⟨y, List.mem_cons_self .., ⟨by omega, a⟩⟩
        rcases List.mem_cons.mp hz with ez | hz
        · subst ez; omega
        · have := q1.1 z hz; omega
      · by_cases b : y.1 + y.2 < x.1 + x.2
        · obtain ⟨z, hz, z1, z2⟩ := (hc (y.1 + y.2)).mp ⟨x, List.mem_cons_self .., ⟨by omega, b⟩⟩
          rcases List.mem_cons.mp hz with ez | hz
          · subst ez; omega
          · have := q2.1 z hz; omega
        · omega
    have e : x = y := Prod.ext e1 e2
    subst e
    rw [cover_uniq (L := r) (L' := r') (fun z hz => h1 z (List.mem_cons_of_mem _ hz)) (fun z hz => h2 z (List.mem_cons_of_mem _ hz)) q1.2 q2.2 fun p => ?_]
    constructor
    · rintro ⟨z, hz, z1, z2⟩
      have := q1.1 z hz
      obtain ⟨u, hu, u1, u2⟩ := (hc p).mp ⟨z, List.mem_cons_of_mem _ hz, ⟨z1, z2⟩⟩
      rcases List.mem_cons.mp hu with eu | hu
      · subst eu; omega
      · exact ⟨u, hu, u1, u2⟩
    · rintro ⟨z, hz, z1, z2⟩
      have := q2.1 z hz
      obtain ⟨u, hu, u1, u2⟩ := (hc p).mpr ⟨z, List.mem_cons_of_mem _ hz, ⟨z1, z2⟩⟩
      rcases List.mem_cons.mp hu with eu | hu
      · subst eu; omega
      · exact ⟨u, hu, u1, u2⟩
theorem HL.uniq {n : Int} {ts L L' : List (Int × Int)} (h : HL n ts L) (h' : HL n ts L') : L = L' := by
  refine cover_uniq (fun x hx => (h.ok x hx).2.1) (fun x hx => (h'.ok x hx).2.1) h.up h'.up fun p => ?_
  constructor
  · rintro ⟨x, hx, x1, x2⟩
    have := h.ok x hx
    exact (h'.iff p (by omega) (by omega)).mp ((h.iff p (by omega) (by omega)).mpr ⟨x, hx, x1, x2⟩)
  · rintro ⟨x, hx, x1, x2⟩
    have := h'.ok x hx
    exact (h.iff p (by omega) (by omega)).mp ((h'.iff p (by omega) (by omega)).mpr ⟨x, hx, x1, x2⟩)
def hstp (b : Bool) (p : Int) (st : List (Int × Int) × Int) : List (Int × Int) × Int := if b = true then st else ((if st.2 < p then st.1 ++ [(st.2, p - st.2)] else st.1), p + 1)
def hgo (bs : List Bool) : Nat → List (Int × Int) × Int
  | 0 => ([], 0)
  | p + 1 => hstp (bs.getD p false) p (hgo bs p)
def holesB (bs : List Bool) : List (Int × Int) := (hgo bs (bs.length + 1)).1
theorem hgo_len (bs : List Bool) : ∀ p, (hgo bs p).1.length ≤ p
  | 0 => Nat.le_refl _
  | p + 1 => by
    have ih := hgo_len bs p
    show (hstp _ _ (hgo bs p)).1.length ≤ p + 1
    unfold hstp
    split
    · omega
    · split
      · rw [List.length_append]
        show _ + 1 ≤ p + 1
        omega
      · show (hgo bs p).1.length ≤ p + 1
        omega
theorem hgo_bd (bs : List Bool) : ∀ p : Nat, 0 ≤ (hgo bs p).2 ∧ (hgo bs p).2 ≤ p ∧ ∀ x ∈ (hgo bs p).1, 0 ≤ x.1 ∧ 1 ≤ x.2 ∧ x.1 + x.2 + 1 ≤ (hgo bs p).2
  | 0 => ⟨Int.le_refl _, Int.le_refl _, fun x hx => by cases hx⟩
  | p + 1 => by
    obtain ⟨h0, h1, h2⟩ := hgo_bd bs p
    show 0 ≤ (hstp _ _ (hgo bs p)).2 ∧ (hstp _ _ (hgo bs p)).2 ≤ ((p + 1 : Nat) : Int) ∧ ∀ x ∈ (hstp _ _ (hgo bs p)).1, 0 ≤ x.1 ∧ 1 ≤ x.2 ∧ x.1 + x.2 + 1 ≤ (hstp _ _ (hgo bs p)).2
    unfold hstp
    split
    · exact ⟨h0, by omega, h2⟩
    · refine ⟨by show (0 : Int) ≤ (p : Int) + 1; omega, by show (p : Int) + 1 ≤ _; omega, fun x hx => ?_⟩
      show 0 ≤ x.1 ∧ 1 ≤ x.2 ∧ x.1 + x.2 + 1 ≤ (p : Int) + 1
      replace hx : x ∈ (if (hgo bs p).2 < (p : Int) then (hgo bs p).1 ++ [((hgo bs p).2, (p : Int) - (hgo bs p).2)] else (hgo bs p).1) := hx
      by_cases q : (hgo bs p).2 < (p : Int)
      · rw [if_pos q] at hx
        rcases List.mem_append.mp hx with hx | hx
        · have := h2 x hx; omega
        · rw [List.mem_singleton.mp hx]
          show 0 ≤ (hgo bs p).2 ∧ 1 ≤ (p : Int) - (hgo bs p).2 ∧ _
          omega
      · rw [if_neg q] at hx
        have := h2 x hx
        omega
theorem hgo_up (bs : List Bool) : ∀ p : Nat, (hgo bs p).1.Pairwise fun x y => x.1 + x.2 < y.1
  | 0 => .nil
  | p + 1 => by
    have ih := hgo_up bs p
    obtain ⟨h0, h1, h2⟩ := hgo_bd bs p
    show (hstp _ _ (hgo bs p)).1.Pairwise _
    unfold hstp
    split
    · exact ih
    · show (if (hgo bs p).2 < (p : Int) then (hgo bs p).1 ++ [((hgo bs p).2, (p : Int) - (hgo bs p).2)] else (hgo bs p).1).Pairwise _
      split
      · refine List.pairwise_append.mpr ⟨ih, List.pairwise_singleton _ _, fun x hx y hy => ?_⟩
        rw [List.mem_singleton.mp hy]
        have := h2 x hx
        show x.1 + x.2 < (hgo bs p).2
        omega
      · exact ih
theorem hgo_iff {n : Int} {ts : List (Int × Int)} : ∀ p : Nat, (p : Int) ≤ n → ∀ q : Int, 0 ≤ q → q < p → (Fr ts q ↔ (∃ x ∈ (hgo (freeB n ts) p).1, In x q) ∨ (hgo (freeB n ts) p).2 ≤ q)
  | 0, _, q, h0, h1 => by omega
  | p + 1, hp, q, q0, q1 => by
    have ih := hgo_iff (n := n) (ts := ts) p (by omega) q q0
    obtain ⟨h0, h1, h2⟩ := hgo_bd (freeB n ts) p
    have hat : (freeB n ts).getD p false = decide (Fr ts (p : Int)) := by rw [List.getD_eq_getElem?_getD, freeB_at (by omega)]; rfl
    show Fr ts q ↔ (∃ x ∈ (hstp _ _ (hgo (freeB n ts) p)).1, In x q) ∨ (hstp _ _ (hgo (freeB n ts) p)).2 ≤ q
    rw [hat]
    generalize hgo (freeB n ts) p = st at ih h0 h1 h2 ⊢
    unfold hstp
    by_cases hf : Fr ts (p : Int)
    · rw [if_pos (decide_eq_true hf)]
      by_cases e : q = p
      · rw [e]
        exact ⟨fun _ => .inr h1, fun _ => hf⟩
      · exact ih (by omega)
    · rw [if_neg (by simpa using hf)]
      show Fr ts q ↔ (∃ x ∈ (if st.2 < (p : Int) then st.1 ++ [(st.2, (p : Int) - st.2)] else st.1), In x q) ∨ (p : Int) + 1 ≤ q
      by_cases e : q = p
      · rw [e]
        refine ⟨fun z => absurd z hf, fun z => ?_⟩
        rcases z with ⟨x, hx, x1, x2⟩ | z
        · by_cases c : st.2 < (p : Int)
          · rw [if_pos c] at hx
            rcases List.mem_append.mp hx with hx | hx
            · have := h2 x hx; omega
            · rw [List.mem_singleton.mp hx] at x2
              have : (p : Int) < st.2 + ((p : Int) - st.2) := x2
              omega
          · rw [if_neg c] at hx
            have := h2 x hx; omega
        · omega
      · rw [ih (by omega)]
        constructor
        · rintro (⟨x, hx, hi⟩ | z)
          · refine .inl ⟨x, ?_, hi⟩
            by_cases c : st.2 < (p : Int)
            · rw [if_pos c]; exact List.mem_append_left _ hx
            · rw [if_neg c]; exact hx
          · refine .inl ⟨(st.2, (p : Int) - st.2), ?_, ⟨z, by show q < st.2 + ((p : Int) - st.2); omega⟩⟩
            rw [if_pos (by omega)]
            exact List.mem_append_right _ (List.mem_singleton.mpr rfl)
        · rintro (⟨x, hx, x1, x2⟩ | z)
          · by_cases c : st.2 < (p : Int)
            · rw [if_pos c] at hx
              rcases List.mem_append.mp hx with hx | hx
              · exact .inl ⟨x, hx, x1, x2⟩
              · rw [List.mem_singleton.mp hx] at x1
                exact .inr x1
            · rw [if_neg c] at hx
              exact .inl ⟨x, hx, x1, x2⟩
          · omega
theorem holes_free {n : Int} {ts : List (Int × Int)} (n0 : 0 ≤ n) : HL n ts (holesB (freeB n ts)) := by
  unfold holesB
  rw [freeB_len]
  have hb := hgo_bd (freeB n ts) n.toNat
  have hu := hgo_up (freeB n ts) (n.toNat + 1)
  have hi := hgo_iff (n := n) (ts := ts) n.toNat (by omega)
  have hat : (freeB n ts).getD n.toNat false = false := by rw [List.getD_eq_getElem?_getD, List.getElem?_eq_none (by rw [freeB_len]; exact Nat.le_refl _)]; rfl
  have en : ((n.toNat : Nat) : Int) = n := by omega
  have es : (hgo (freeB n ts) (n.toNat + 1)).1 = if (hgo (freeB n ts) n.toNat).2 < n then (hgo (freeB n ts) n.toNat).1 ++ [((hgo (freeB n ts) n.toNat).2, n - (hgo (freeB n ts) n.toNat).2)] else (hgo (freeB n ts) n.toNat).1 := by
    show (hstp _ _ (hgo (freeB n ts) n.toNat)).1 = _
    rw [hat]
    unfold hstp
    rw [if_neg Bool.false_ne_true, en]
  rw [es] at hu ⊢
  generalize hgo (freeB n ts) n.toNat = st at hb hi hu ⊢
  obtain ⟨h0, h1, h2⟩ := hb
  refine ⟨fun x hx => ?_, hu, fun p p0 p1 => ?_⟩
  · by_cases c : st.2 < n
    · rw [if_pos c] at hx
      rcases List.mem_append.mp hx with hx | hx
      · have := h2 x hx; omega
      · rw [List.mem_singleton.mp hx]
        show 0 ≤ st.2 ∧ 1 ≤ n - st.2 ∧ st.2 + (n - st.2) ≤ n
        omega
    · rw [if_neg c] at hx
      have := h2 x hx; omega
  · rw [hi p p0 (by omega)]
    constructor
    · rintro (⟨x, hx, hi⟩ | z)
      · refine ⟨x, ?_, hi⟩
        by_cases c : st.2 < n
        · rw [if_pos c]; exact List.mem_append_left _ hx
        · rw [if_neg c]; exact hx
      · refine ⟨(st.2, n - st.2), ?_, ⟨z, by show p < st.2 + (n - st.2); omega⟩⟩
        rw [if_pos (by omega)]
        exact List.mem_append_right _ (List.mem_singleton.mpr rfl)
    · rintro ⟨x, hx, x1, x2⟩
      by_cases c : st.2 < n
      · rw [if_pos c] at hx
        rcases List.mem_append.mp hx with hx | hx
        · exact .inl ⟨x, hx, x1, x2⟩
        · rw [List.mem_singleton.mp hx] at x1
          exact .inr x1
      · rw [if_neg c] at hx
        exact .inl ⟨x, hx, x1, x2⟩
end Sm
/-! Taken runs and holes part the pages. -/
namespace Sm
/-- intervals (begin, end), ascending, that part the pages from c to n -/
theorem chain {n : Int} : ∀ {zs : List (Int × Int)} {c : Int}, (∀ z ∈ zs, z.1 < z.2) → zs.Pairwise (fun x y => x.1 ≤ y.1 ∧ (x.2 ≤ y.1 ∨ y.2 ≤ x.1)) → (∀ z ∈ zs, c ≤ z.1 ∧ z.2 ≤ n) → (∀ p, c ≤ p → p < n → ∃ z ∈ zs, z.1 ≤ p ∧ p < z.2) → c ≤ n → c :: zs.map (·.2) = zs.map (·.1) ++ [n]
  | [], c, _, _, _, cov, hc => by
    have : ¬ c < n := fun h => by
      obtain ⟨z, hz, _⟩ := cov c (Int.le_refl _) h
      simp at hz
    have e : c = n := by omega
    rw [e]
    rfl
  | z :: r, c, pos, pw, bd, cov, hc => by
    have pz := pos z (List.mem_cons_self ..)
    have bz := bd z (List.mem_cons_self ..)
    have pw2 := List.pairwise_cons.mp pw
    have e : z.1 = c := by
      obtain ⟨y, hy, y1, y2⟩ := cov c (Int.le_refl _) (by omega)
      rcases List.mem_cons.mp hy with rfl | hy
      · omega
      · have h1 := pw2.1 y hy
        omega
    have nx : ∀ y ∈ r, z.2 ≤ y.1 := fun y hy => by
      have h1 := pw2.1 y hy
      have h2 := pos y (List.mem_cons_of_mem _ hy)
      omega
    have ih := chain (n := n) (zs := r) (c := z.2) (fun y hy => pos y (List.mem_cons_of_mem _ hy)) pw2.2 (fun y hy => ⟨nx y hy, (bd y (List.mem_cons_of_mem _ hy)).2⟩) (fun p p0 p1 => by
      obtain ⟨y, hy, y1, y2⟩ := cov p (by omega) p1
      rcases List.mem_cons.mp hy with rfl | hy
      · omega
      · exact ⟨y, hy, y1, y2⟩) (by omega)
    rw [List.map_cons, List.map_cons, List.cons_append, ← ih, e]
/-- the parts of the holes and of what is taken, sorted -/
theorem part_of {n : Int} {ts L zs : List (Int × Int)} (n0 : 0 ≤ n) (T : Tk n ts) (h : HL n ts L) (p : zs.Perm ((L ++ ts).map fun x => (x.1, x.1 + x.2))) (s : zs.Pairwise fun x y => x.1 ≤ y.1) : 0 :: zs.map (·.2) = zs.map (·.1) ++ [n] := by
  have mem : ∀ z, z ∈ zs → ∃ x, (x ∈ L ∨ x ∈ ts) ∧ z = (x.1, x.1 + x.2) := fun z hz => by
    obtain ⟨x, hx, e⟩ := List.mem_map.mp (p.mem_iff.mp hz)
    exact ⟨x, List.mem_append.mp hx, e.symm⟩
  have ok : ∀ x, (x ∈ L ∨ x ∈ ts) → 0 ≤ x.1 ∧ 1 ≤ x.2 ∧ x.1 + x.2 ≤ n := fun x hx => hx.elim (fun q => h.ok x q) (fun q => T.ok x q)
  have dj : ((L ++ ts).map fun x => ((x.1, x.1 + x.2) : Int × Int)).Pairwise fun x y => x.2 ≤ y.1 ∨ y.2 ≤ x.1 := by
    refine List.pairwise_map.mpr (List.pairwise_append.mpr ⟨h.up.imp fun {a b} q => .inl (by show a.1 + a.2 ≤ b.1; omega), T.dj.imp fun {a b} q => q, fun a ha b hb => ?_⟩)
    have oa := h.ok a ha
    have ob := T.ok b hb
    refine Classical.byContradiction fun no => ?_
    have no1 : ¬ (a.1 + a.2 ≤ b.1 ∨ b.1 + b.2 ≤ a.1) := no
    let q := if a.1 ≤ b.1 then b.1 else a.1
    have hq : q = if a.1 ≤ b.1 then b.1 else a.1 := rfl
    have q1 : a.1 ≤ q ∧ q < a.1 + a.2 ∧ b.1 ≤ q ∧ q < b.1 + b.2 := by
      rw [hq]
      split <;> omega
    have hf : Fr ts q := (h.iff q (by omega) (by omega)).mpr ⟨a, ha, q1.1, q1.2.1⟩
    exact hf b hb ⟨q1.2.2.1, q1.2.2.2⟩
  have dj2 : zs.Pairwise fun x y => x.2 ≤ y.1 ∨ y.2 ≤ x.1 := (p.pairwise_iff (fun {x y} q => q.symm)).mpr dj
  refine chain (fun z hz => ?_) (s.imp₂ (fun x y a b => ⟨a, b⟩) dj2) (fun z hz => ?_) (fun q q0 q1 => ?_) n0
  · obtain ⟨x, hx, rfl⟩ := mem z hz
    have := ok x hx
    show x.1 < x.1 + x.2
    omega
  · obtain ⟨x, hx, rfl⟩ := mem z hz
    have := ok x hx
    exact ⟨this.1, this.2.2⟩
  · by_cases hf : Fr ts q
    · obtain ⟨x, hx, x1, x2⟩ := (h.iff q q0 q1).mp hf
      exact ⟨(x.1, x.1 + x.2), p.mem_iff.mpr (List.mem_map.mpr ⟨x, List.mem_append.mpr (.inl hx), rfl⟩), x1, x2⟩
    · have : ∃ x, x ∈ ts ∧ In x q := Classical.byContradiction fun no => hf fun x hx hi => no ⟨x, hx, hi⟩
      obtain ⟨x, hx, x1, x2⟩ := this
      exact ⟨(x.1, x.1 + x.2), p.mem_iff.mpr (List.mem_map.mpr ⟨x, List.mem_append.mpr (.inr hx), rfl⟩), x1, x2⟩
theorem apartL : ∀ {M : List (Int × Int)}, (∀ x ∈ M, 1 ≤ x.2) → M.Pairwise (fun x y => x.1 + x.2 < y.1) → ∀ x ∈ M, ∀ y ∈ M, x.1 ≠ y.1 + y.2
  | [], _, _, x, hx, _, _ => by simp at hx
  | z :: r, pos, pw, x, hx, y, hy => by
    have p := List.pairwise_cons.mp pw
    have pz := pos z (List.mem_cons_self ..)
    have py := pos y hy
    rcases List.mem_cons.mp hx with e | hx <;> rcases List.mem_cons.mp hy with e2 | hy
    · rw [e, e2]
      omega
    · have := p.1 y hy
      rw [e]
      omega
    · have := p.1 x hx
      rw [e2]
      omega
    · exact apartL (fun w hw => pos w (List.mem_cons_of_mem _ hw)) p.2 x hx y hy
/-- no hole begins where another one ends -/
theorem apart {n : Int} {ts L : List (Int × Int)} (h : HL n ts L) : ∀ x ∈ L, ∀ y ∈ L, x.1 ≠ y.1 + y.2 := apartL (fun x hx => (h.ok x hx).2.1) h.up
/-- the holes have as many pages as are free -/
theorem sum_holes {n : Int} {ts L : List (Int × Int)} (n0 : 0 ≤ n) (T : Tk n ts) (h : HL n ts L) : (L.map (·.2)).sum = n - (ts.map (·.2)).sum := by
  rw [← cnt_free n0 T]
  have e1 : ∀ M : List (Int × Int), (∀ x ∈ M, 1 ≤ x.2) → ((pg M).length : Int) = (M.map (·.2)).sum := fun M => by
    induction M with
    | nil => intro _; rfl
    | cons x r ih =>
      intro hp
      have := ih fun y hy => hp y (List.mem_cons_of_mem _ hy)
      have hx := hp x (List.mem_cons_self ..)
      have e : (pg (x :: r)).length = x.2.toNat + (pg r).length := by
        unfold pg
        rw [List.flatMap_cons, List.length_append]
        unfold iv
        rw [List.length_map, List.length_range]
      rw [e, List.map_cons, List.sum_cons]
      omega
  rw [← e1 L fun x hx => (h.ok x hx).2.1, pg_free n0 h]
  unfold frp
  rw [← List.countP_eq_length_filter, List.countP_map]
  rfl
theorem perm_del {n : Int} {ts A B : List (Int × Int)} {x : Int × Int} (T : Tk n ts) (p : ts.Perm (A ++ x :: B)) : (del ts x.1).Perm (A ++ B) := by
  have hx : x ∈ ts := p.mem_iff.mpr (List.mem_append.mpr (.inr (List.mem_cons_self ..)))
  have h1 : (x :: del ts x.1).Perm (x :: (A ++ B)) := (perm_cons_del T hx).trans (p.trans List.perm_middle)
  exact h1.cons_inv
theorem hl_all {n : Int} (n1 : 1 ≤ n) {L : List (Int × Int)} (h : HL n [] L) : L = [(0, n)] := by
  refine HL.uniq h ⟨fun x hx => ?_, .cons (fun y hy => by simp at hy) .nil, fun p p0 p1 => ⟨fun _ => ⟨(0, n), List.mem_singleton.mpr rfl, ?_⟩, fun _ x hx => by simp at hx⟩⟩
  · rw [List.mem_singleton.mp hx]
    exact ⟨Int.le_refl _, n1, by show 0 + n ≤ n; omega⟩
  · exact ⟨p0, by show p < 0 + n; omega⟩
theorem hl_perm {n : Int} {ts us L : List (Int × Int)} (p : us.Perm ts) (h : HL n ts L) : HL n us L := ⟨h.ok, h.up, fun q q0 q1 => (fr_perm p q).trans (h.iff q q0 q1)⟩
theorem sum_perm {ts us : List (Int × Int)} (p : us.Perm ts) : (us.map (·.2)).sum = (ts.map (·.2)).sum := by
  have : ∀ {a b : List Int}, a.Perm b → a.sum = b.sum := fun h => by
    induction h with
    | nil => rfl
    | cons x _ ih => simp [ih]
    | swap x y l => simp; omega
    | trans _ _ a b => exact a.trans b
  exact this (p.map _)
/-- what is left when a part is taken out -/
theorem perm_rest {n : Int} {ps A G : List (Int × Int)} (T : Tk n ps) (p : ps.Perm (A ++ G)) : (ps.filter fun x => !(G.any fun y => decide (y.1 = x.1 ∧ y.2 = x.2))).Perm A := by
  have T2 := T.perm p.symm
  refine (p.filter _).trans ?_
  rw [List.filter_append]
  have e1 : A.filter (fun x => !(G.any fun y => decide (y.1 = x.1 ∧ y.2 = x.2))) = A := List.filter_eq_self.mpr fun x hx => by
    have : G.any (fun y => decide (y.1 = x.1 ∧ y.2 = x.2)) = false := List.any_eq_false.mpr fun y hy q => by
      have q := of_decide_eq_true q
      have nd := T2.nd
      rw [List.map_append, List.nodup_append] at nd
      exact nd.2.2 x.1 (List.mem_map.mpr ⟨x, hx, rfl⟩) y.1 (List.mem_map.mpr ⟨y, hy, rfl⟩) q.1.symm
    rw [this]
    rfl
  have e2 : G.filter (fun x => !(G.any fun y => decide (y.1 = x.1 ∧ y.2 = x.2))) = [] := List.filter_eq_nil_iff.mpr fun x hx q => by
    have : G.any (fun y => decide (y.1 = x.1 ∧ y.2 = x.2)) = true := List.any_eq_true.mpr ⟨x, hx, decide_eq_true ⟨rfl, rfl⟩⟩
    rw [this] at q
    cases q
  rw [e1, e2, List.append_nil]
end Sm
/-! xs == [] of any list; lists of pairs of ints as data. -/
namespace Eq0
open PySem PySem.Spec PyProof.Rows L2
section
variable {X : Cx}
def rEqNil (K : PySem.W.Frag) : R2 := fun x y H Q => ∃ a b xs, x = .ref a ∧ y = .ref b ∧ SqL K H a xs ∧ SqL K H b [] ∧ Q (.bl xs.isEmpty) H
theorem shaped_nil : SeqAt.shaped (.list []) = true := by
  unfold SeqAt.shaped
  rw [PyData.canLay0, PyData.canLayAll0, PyData.depth, PyData.depthAll]
  rfl
theorem eqv_nil : PyData.eqv (.list []) (.list []) = true := SeqAt.eqv_refl _ (SeqAt.canLay_of_shaped shaped_nil)
theorem op_eqNil (hu : X.A.units + 64 < cLine) : OpR X (compareOp .Eq) (rEqNil X.K) := by
  intro pins s σ H x y v u Q I rx ry h
  obtain ⟨a, b, xs, rfl, rfl, ha, hb, q⟩ := h
  cases xs with
  | nil => exact op_eqD hu pins s σ H _ _ _ _ Q I rx ry ⟨.list [], .list [], .lst ha .nil, .lst hb .nil, shaped_nil, shaped_nil, by rw [eqv_nil]; exact q⟩
  | cons x r => exact El.op_eqLen (by omega) pins s σ H _ _ _ _ Q I rx ry ⟨a, b, _, _, rfl, rfl, ha, hb, (by simp), q⟩
end
def dPr (L : List (Int × Int)) : PyData := .list (L.map fun x => .tuple [.int x.1, .int x.2])
theorem canlay_pr : ∀ L : List (Int × Int), PyData.canLayAll0 (L.map fun x => .tuple [.int x.1, .int x.2]) = true
  | [] => rfl
  | x :: L => by
    rw [List.map_cons, PyData.canLayAll0, canlay_pr L]
    rfl
theorem depth_pr : ∀ L : List (Int × Int), PyData.depthAll (L.map fun x => .tuple [.int x.1, .int x.2]) ≤ 1
  | [] => by rw [List.map_nil, PyData.depthAll]; omega
  | x :: L => by
    have := depth_pr L
    rw [List.map_cons, PyData.depthAll]
    have h : PyData.depth (.tuple [.int x.1, .int x.2]) ≤ 1 := by rw [PyData.depth, PyData.depthAll, PyData.depthAll, PyData.depthAll, PyData.depth, PyData.depth]; decide
    omega
theorem shaped_pr (L : List (Int × Int)) : SeqAt.shaped (dPr L) = true := by
  have := depth_pr L
  unfold SeqAt.shaped dPr
  rw [PyData.canLay0, canlay_pr, PyData.depth]
  simp
  omega
theorem dpall_pr {K : PySem.W.Frag} {H : Hp} : ∀ {as : List Addr} {L : List (Int × Int)}, Paired (fun a (x : Int × Int) => H a = some (.tup [.int x.1, .int x.2])) as L → DpAll K H (as.map V.ref) (L.map fun x => .tuple [.int x.1, .int x.2])
  | _, _, .nil => .nil
  | _, _, .cons h t => .cons (.tup (SqT.of h) (.cons (.int _) (.cons (.int _) .nil))) (dpall_pr t)
theorem dp_pr {K : PySem.W.Frag} {H : Hp} {a : Addr} {as : List Addr} {L : List (Int × Int)} (h : H a = some (.lst (as.map V.ref))) (p : Paired (fun a (x : Int × Int) => H a = some (.tup [.int x.1, .int x.2])) as L) : Dp K H (.ref a) (dPr L) := .lst (SqL.of h) (dpall_pr p)
theorem eqv_pr (L : List (Int × Int)) : PyData.eqv (dPr L) (dPr L) = true := SeqAt.eqv_refl _ (SeqAt.canLay_of_shaped (shaped_pr L))
end Eq0
namespace Sc
open PySem L2 LamX Lf
/-! ### what is compared -/
def dSeen (L : List Pr) (a b : Int) : PyData := .list [Eq0.dPr L, .int a, .int b]
theorem shaped_seen (L : List Pr) (a b : Int) : SeqAt.shaped (dSeen L a b) = true := by
  have h1 : PyData.depth (Eq0.dPr L) ≤ 2 := by
    have := Eq0.depth_pr L
    unfold Eq0.dPr
    rw [PyData.depth]
    omega
  have h2 : PyData.canLay0 (Eq0.dPr L) = true := by
    unfold Eq0.dPr
    rw [PyData.canLay0, Eq0.canlay_pr]
  unfold SeqAt.shaped dSeen
  rw [Bool.and_eq_true]
  constructor
  · rw [PyData.canLay0, PyData.canLayAll0, PyData.canLayAll0, PyData.canLayAll0, PyData.canLayAll0, PyData.canLay0, PyData.canLay0, h2]
    rfl
  · refine decide_eq_true ?_
    rw [PyData.depth, PyData.depthAll, PyData.depthAll, PyData.depthAll, PyData.depthAll, PyData.depth, PyData.depth]
    omega
def dIn (xs : List Int) : PyData := .list (xs.map .int)
theorem canlay_in : ∀ xs : List Int, PyData.canLayAll0 (xs.map .int) = true
  | [] => rfl
  | x :: r => by
    rw [List.map_cons, PyData.canLayAll0, canlay_in r]
    rfl
theorem depth_in : ∀ xs : List Int, PyData.depthAll (xs.map .int) ≤ 0
  | [] => by rw [List.map_nil, PyData.depthAll]; omega
  | x :: r => by
    have := depth_in r
    rw [List.map_cons, PyData.depthAll, PyData.depth]
    omega
theorem shaped_in (xs : List Int) : SeqAt.shaped (dIn xs) = true := by
  have h1 := depth_in xs
  unfold SeqAt.shaped dIn
  rw [PyData.canLay0, canlay_in, PyData.depth]
  simp
  omega
theorem dpall_in {K : PySem.W.Frag} {H : Hp} : ∀ xs : List Int, DpAll K H (xs.map V.int) (xs.map .int)
  | [] => .nil
  | x :: r => .cons (.int x) (dpall_in r)
theorem dp_in {K : PySem.W.Frag} {H : Hp} {a : Addr} {xs : List Int} (h : SqL K H a (xs.map V.int)) : Dp K H (.ref a) (dIn xs) := .lst h (dpall_in xs)
/-! ### _law_seen -/
def SeenAt (H : Hp) (l : Addr) (L : List Pr) (a b : Int) : Prop := ∃ lp ps, H l = some (.lst [.ref lp, .int a, .int b]) ∧ H lp = some (.lst (ps.map V.ref)) ∧ Paired (fun (t : Addr) (x : Pr) => H t = some (.tup [.int x.1, .int x.2])) ps L
theorem SeenAt.dp {K : PySem.W.Frag} {H : Hp} {l : Addr} {L : List Pr} {a b : Int} (h : SeenAt H l L a b) : Dp K H (.ref l) (dSeen L a b) := by
  obtain ⟨lp, ps, h1, h2, h3⟩ := h
  exact .lst (SqL.of h1) (.cons (Eq0.dp_pr h2 h3) (.cons (.int _) (.cons (.int _) .nil)))
theorem SeenAt.same {H H' : Hp} {l : Addr} {L : List Pr} {a b : Int} (h : SeenAt H l L a b) (k : Same H H') : SeenAt H' l L a b := by
  obtain ⟨lp, ps, h1, h2, h3⟩ := h
  exact ⟨lp, ps, k _ _ h1, k _ _ h2, L2.Paired.mapP h3 fun t x z => k _ _ z⟩
theorem paired_of {α β : Type} {F : α → β → Prop} : ∀ {xs : List α} {ys : List β}, xs.length = ys.length → (∀ (i : Nat) (x : α) (y : β), xs[i]? = some x → ys[i]? = some y → F x y) → Paired F xs ys
  | [], [], _, _ => .nil
  | x :: xs, y :: ys, hl, h => .cons (h 0 x y rfl rfl) (paired_of (by simpa using hl) fun i a b ha hb => h (i + 1) a b (by simpa using ha) (by simpa using hb))
def spSeen (S : Addr) : Sp := fun vs H Q _ => ∃ (a d : Addr) (n mk : Int) (pol : V) (ts : List Pr), vs = [.ref a] ∧ SpAt S H a n pol mk d ∧ H d = some (.dK (kvI ts)) ∧ Sm.Tk n ts ∧ ts.length < 64 ∧ 1 ≤ n ∧ n ≤ 1000 ∧
  ∀ L H' l, Sm.HL n ts L → Same H H' → SeenAt H' l L (n - (ts.map (·.2)).sum) mk → Q (.ref l) H'
abbrev NSe : List Str := ["_law_space", "_law_hole"]
section
variable {P : Program} {w : World} {K : PySem.W.Frag} {mg : Str → Option Value} {base : Heap} {C S CN : Addr} {mc : Value} {tM : Tok} {Ts : Tl} {FL : LF} {ix : Nat → Nat}
theorem scSeen : FnScope NSe ["_law_space"] (defScope s__law_seen) := ⟨rfl, rfl, rfl, by decide +kernel, rfl, by decide +kernel, by decide +kernel⟩
theorem ok_seen {f fH fF fM ppF ppM : Addr} {fd fdH fdF fdM : FuncData} (F : Fun K "_law_seen" "_law_seen" s__law_seen f fd) (T : TR K mg C mc tM) (U : TS K mg S) (GH : FnOk P w K mg base CX0 7 fH fdH ["self"] (spHoles C S)) (mH : Meth K S "holes" fH) (bH : Binds K fdH ["self"] [])
    (GF : FnOk P w K mg base CX0 1 fF fdF ["self"] (spFree S)) (bF : Binds K fdF ["self"] []) (pF : PropOf K S "free" ppF fF) (GM : FnOk P w K mg base CX0 1 fM fdM ["self"] (spMark S)) (bM : Binds K fdM ["self"] []) (pM : PropOf K S "mark" ppM fM) :
    FnOk P w K mg base CX0 8 f fd ["_law_space"] (spSeen S) := by
  refine F.ok scSeen (fun vs H Q E h => ?_) (fun cdv A outer s H vs Q E hr h => ?_)
  · obtain ⟨a, d, n, mk, pol, ts, rfl, _⟩ := h
    rfl
  · obtain ⟨a, d, n, mk, pol, ts, rfl, sp, hd, tk, tl, n1, n2, k⟩ := h
    obtain ⟨dx, fs, ha, p1, p2, p3, p4, p5, p6⟩ := id sp
    have hr2 : Room 2 _ := hr.mono (by decide)
    refine ⟨_, pss_one (ps_ret (pe_lst (pa_cons (pe_lc (own := [("_law_hole", 1)]) (g := gName 1) (tt := tYes) rfl scSeen.nd (pi_list (pe_meth0 (pv 0) U.cl mH GH hr bH .nil pass0)) (blkOk_by (N := NSe) (sc := defScope s__law_seen) (by decide +kernel))
        (fun _ _ _ _ _ => pg_name (i := 1) scSeen.nd rfl (Or.inl rfl)) (fun _ _ _ _ _ => pts_nil) (fun _ _ _ _ _ => pe_tup (pa_cons (Mw.pe_fldK (K := K) (pv 1) rfl) (pa_cons (Mw.pe_fldK (K := K) (pv 1) rfl) pa_nil))))
      (pa_cons (pe_prop (pv 0) U.cl pF GF hr2 bF .nil pass0 rfl) (pa_cons (pe_prop (pv 0) U.cl pM GM hr2 bM .nil pass0 rfl) pa_nil))))), ?_⟩
    refine ⟨_, rfl, a, dx, _, rfl, ha, p6 "holes" (by decide +kernel) (by decide +kernel) (by decide +kernel) (by decide +kernel), a, d, n, mk, _, ts, rfl, sp, hd, tk, tl, n1, n2, fun H1 lh as L e1 nlh elh rl hL ll => ?_⟩
    have alen := paired_len rl
    refine ⟨lh, rfl, ⟨_, SqL.of elh⟩, fun D nD => lc_list (K := K) (a := lh) (xs := as.map V.ref) (PTup H1 D fun i => [.int (L.getD i (0, 0)).1, .int (L.getD i (0, 0)).2]) (.zero nD) (fun i H' _ ⟨_, z, _⟩ => SqL.of (z _ _ elh)) ?_ ?_⟩
    · rintro i x H' hx p
      rw [List.getElem?_map] at hx
      obtain ⟨g, hg, rfl⟩ := Option.map_eq_some_iff.mp hx
      have il : i < L.length := by rw [← alen]; exact (List.getElem?_eq_some_iff.mp hg).1
      have hLi : L[i]? = some L[i] := List.getElem?_eq_getElem il
      obtain ⟨dg, eg⟩ := paired_ith rl hg hLi
      have gd : L.getD i (0, 0) = L[i] := by rw [List.getD_eq_getElem?_getD, hLi]; rfl
      obtain ⟨_, q1, _⟩ := id p
      refine ⟨rfl, _, rfl, g, C, dg, _, _, rfl, q1 _ _ eg, T.cl, T.nF, rf_f _ _, _, rfl, g, C, dg, _, _, rfl, q1 _ _ eg, T.cl, T.nM, rf_m _ _, (by show 2 ≤ sizeLine; decide), fun t nt => ?_⟩
      have := p.next nD (by omega) nt
      rw [gd] at this
      exact this
    rintro H2 ⟨ps, q1, q2, q3, q4⟩
    rw [List.length_map, alen] at q3
    have e2 := e1.trans q1
    refine ⟨_, rfl, a, dx, _, rfl, e2 _ _ ha, a, d, n, mk, _, ts, rfl, sp.same e2, e2 _ _ hd, ?_⟩
    refine ⟨_, rfl, a, dx, _, rfl, e2 _ _ ha, a, d, n, mk, _, rfl, sp.same e2, (by show 3 ≤ sizeLine; decide), fun l nl => ?_⟩
    have s3 := put_same (o := .lst [.ref D, .int (n - (ts.map (·.2)).sum), .int mk]) nl
    refine k L _ l hL (e2.trans s3) ⟨D, ps, upd_same, s3 _ _ q2, paired_of q3 fun i t x ht hx => s3 _ _ ?_⟩
    have := q4 i t ht
    dsimp only at this
    rw [List.getD_eq_getElem?_getD, hx] at this
    exact this
/-! ### _law_asked -/
def spLAskA (Ts : Tl) (C S : Addr) (F : LF) (ix : Nat → Nat) : Sp := fun vs H Q _ => ∃ (a d : Addr) (n mk m : Int) (pol : V) (z : Str) (pk : List Pr → Int → Int → Option Int) (ts : List Pr), vs = [.ref a, .int m] ∧ SpAt S H a n pol mk d ∧ PolA F ix H pol z pk ∧ H d = some (.dK (kvI ts)) ∧ Sm.Tk n ts ∧ ts.length < 64 ∧ 1 ≤ n ∧ n ≤ 1000 ∧ 1 ≤ m ∧ m ≤ 1000 ∧ (z = "halves" → m ≤ 500) ∧ 0 ≤ mk ∧ mk ≤ 1000 ∧ Tabs Ts H ∧
  ∀ L s, Sm.HL n ts L → szOk z s m → 1 ≤ s → s ≤ 1000 → (∀ c, ans pk L s mk = some c → ∀ H' r, putT a d H H' → Tabs Ts H' → NewT H r → RunAt C H' r c s → H' d = some (.dK (kvI (ts ++ [(c, s)]))) → SpAt S H' a n pol (if pol = .str "next" then c + s else mk) d → Q (.ref r) H') ∧ (ans pk L s mk = none → ∀ H', ExtN H H' → Tabs Ts H' → Q .non H')
theorem scLAsk : FnScope ["_law_space", "_law_many"] ["_law_space", "_law_many"] (defScope s__law_asked) := ⟨rfl, rfl, rfl, by decide +kernel, rfl, by decide +kernel, by decide +kernel⟩
theorem ok_lask {f fT fN cc cda : Addr} {fd fdT : FuncData} {doc pm ct : Value} (F : Fun K "_law_asked" "_law_asked" s__law_asked f fd) (U : TS K mg S) (N : TN P K mg CN fN cc cda doc pm ct)
    (GT : FnOk P w K mg base (L2.CX P w) 10 fT fdT ["self", "many"] (spTakeA Ts C S CN FL ix)) (mT : Meth K S "take" fT) (bT : Binds K fdT ["self", "many"] []) : FnOk P w K mg base CX0 11 f fd ["_law_space", "_law_many"] (spLAskA Ts C S FL ix) := by
  refine F.ok scLAsk (fun vs H Q E h => ?_) (fun cdv A outer s H vs Q E hr h => ?_)
  · obtain ⟨a, d, n, mk, m, pol, z, pk, ts, rfl, _⟩ := h
    rfl
  · obtain ⟨a, d, n, mk, m, pol, z, pk, ts, rfl, sp, hP, hd, tk, tl, n1, n2, m1, m2, mz, k1, k2, hT, k⟩ := h
    obtain ⟨dx, fs, ha, p1, p2, p3, p4, p5, p6⟩ := id sp
    refine ⟨_, pss_one (ps_try_only (c := .ref CN) rfl rfl ⟨rfl, by decide, .inl N.mgN⟩ L2.takes0
      (fun W pn xe tk _ => pss_one (ps_ret (Mw.pe_methW (E := WE W) (pv 0) U.cl mT GT hr bT (fun σ => passAt tk σ) (pa_cons (pv 1) pa_nil))))
      (fun a oe cls d pn _ _ => pss_one (ps_ret pe_non))), ?_⟩
    refine ⟨_, rfl, a, dx, _, rfl, ha, p6 "take" (by decide +kernel) (by decide +kernel) (by decide +kernel) (by decide +kernel), _, rfl, a, d, n, mk, m, pol, z, pk, ts, rfl, sp, hP, hd, tk, tl, n1, n2, m1, m2, mz, k1, k2, hT, fun L s0 hl hs s1 s2 => ⟨(k L s0 hl hs s1 s2).1, fun hn H' dd e1 T1 ndd edd => ?_⟩⟩
    exact ⟨true, PySem.W.exm_ref N.g.exC N.g.hd N.g.tyC N.sP, fun _ ax nax => (k L s0 hl hs s1 s2).2 hn H' e1 T1, fun q => nomatch q⟩
end
end Sc
namespace Sc
open PySem L2 LamX Lf
/-- the two numbers of a pair that stands at a place -/
def kP (H : Hp) : V → Int × Int
  | .ref t => match H t with
    | some (.tup [.int i, .int j]) => (i, j)
    | _ => (0, 0)
  | _ => (0, 0)
theorem kP_at {H : Hp} {t : Addr} {i j : Int} (e : H t = some (.tup [.int i, .int j])) : kP H (.ref t) = (i, j) := by
  show (match H t with
    | some (.tup [.int i, .int j]) => (i, j)
    | _ => (0, 0)) = _
  rw [e]
theorem paired_app {α β : Type} {F : α → β → Prop} : ∀ {xs : List α} {ys : List β} {us : List α} {vs : List β}, Paired F xs ys → Paired F us vs → Paired F (xs ++ us) (ys ++ vs)
  | _, _, _, _, .nil, t => t
  | _, _, _, _, .cons a r, t => .cons a (paired_app r t)
theorem range_getD {α β : Type} (f : α → β) {xs : List α} {d : α} {m : Nat} (h : m = xs.length) : (List.range m).map (fun i => f (xs.getD i d)) = xs.map f := by
  subst h
  refine List.ext_getElem (by simp) fun i h1 h2 => ?_
  have hi : i < xs.length := by simpa using h2
  rw [List.getElem_map, List.getElem_map, List.getElem_range, List.getD_eq_getElem?_getD, List.getElem?_eq_getElem hi]
  rfl
def spParted (C S : Addr) : Sp := fun vs H Q _ => ∃ (a d gv : Addr) (n mk : Int) (pol : V) (ts : List Pr) (gs : List Addr) (ps : List Pr), vs = [.ref a, .ref gv, .int n] ∧ SpAt S H a n pol mk d ∧ H d = some (.dK (kvI ts)) ∧ Sm.Tk n ts ∧ ts.length < 64 ∧ 1 ≤ n ∧ n ≤ 1000 ∧
  H gv = some (.lst (gs.map V.ref)) ∧ RunsAt C H gs ps ∧ ps.Perm ts ∧ ∀ H', Same H H' → Q (.bl true) H'
abbrev NPa : List Str := ["_law_space", "_law_given", "_law_pages", "_law_holes", "_law_parts", "_law_ends", "_law_run", "_law_begin", "_law_end", "_law_hole"]
section
variable {P : Program} {w : World} {K : PySem.W.Frag} {mg : Str → Option Value} {base : Heap} {C S CN : Addr} {mc : Value} {tM : Tok} {Ts : Tl} {FL : LF} {ix : Nat → Nat}
theorem scParted : FnScope NPa ["_law_space", "_law_given", "_law_pages"] (defScope s__law_is_parted) := ⟨rfl, rfl, rfl, by decide +kernel, rfl, by decide +kernel, by decide +kernel⟩
theorem ok_parted {f fH fF fE ppF ppE : Addr} {fd fdH fdF fdE : FuncData} (F : Fun K "_law_is_parted" "_law_is_parted" s__law_is_parted f fd) (T : TR K mg C mc tM) (U : TS K mg S) (B : TB mg) (hany : mg "any" = none)
    (GH : FnOk P w K mg base CX0 7 fH fdH ["self"] (spHoles C S)) (mH : Meth K S "holes" fH) (bH : Binds K fdH ["self"] [])
    (GF : FnOk P w K mg base CX0 1 fF fdF ["self"] (spFree S)) (bF : Binds K fdF ["self"] []) (pF : PropOf K S "free" ppF fF) (GE : FnOk P w K mg base CX0 1 fE fdE ["self"] (spEnd C)) (bE : Binds K fdE ["self"] []) (pE : PropOf K C "end" ppE fE) :
    FnOk P w K mg base CX0 8 f fd ["_law_space", "_law_given", "_law_pages"] (spParted C S) := by
  refine F.ok scParted (fun vs H Q E h => ?_) (fun cdv A outer s H vs Q E hr h => ?_)
  · obtain ⟨a, d, gv, n, mk, pol, ts, gs, ps, rfl, _⟩ := h
    rfl
  · obtain ⟨a, d, gv, n, mk, pol, ts, gs, ps, rfl, sp, hd, tk, tl, n1, n2, hg, rg, pm, k⟩ := h
    obtain ⟨dx, fs, ha, p1, p2, p3, p4, p5, p6⟩ := id sp
    have hr2 : Room 2 _ := hr.mono (by decide)
    refine ⟨_, pss_cons (ps_set (i := 3) scParted.nd rfl (.inl rfl) (pe_callTy call_list_of (by rfl) B.list (by decide +kernel) (pa_cons (pe_meth0 (pv 0) U.cl mH GH hr bH .nil pass0) pa_nil)))
      (pss_cons (ps_set (i := 4) scParted.nd rfl (.inl rfl) (pe_callB cr_sortedPO (by rfl) U.sorted (by decide +kernel) (pa_cons (pe_lc (own := [("_law_run", 6)]) (g := gName 6) (tt := tYes) rfl scParted.nd (pi_list (pe_op op_cat (pv 3) (pv 1))) (blkOk_by (N := NPa) (sc := defScope s__law_is_parted) (by decide +kernel))
        (fun _ _ _ _ _ => pg_name (i := 6) scParted.nd rfl (Or.inl rfl)) (fun _ _ _ _ _ => pts_nil) (fun _ _ _ _ _ => pe_tup (pa_cons (Mw.pe_fldK (K := K) (pv 6) rfl) (pa_cons (pe_prop (pv 6) T.cl pE GE hr2 bE .nil pass0 rfl) pa_nil)))) pa_nil)))
      (pss_cons (ps_if (pt_cmpR (op_neD hr.units)
          (pe_lc (own := [("_law_begin", 7), ("_law_end", 8)]) (g := gTup K 2 (gCons (gName 7) (gCons (gName 8) gNil))) (tt := tYes) rfl scParted.nd (pi_list (pe_op op_cat (pe_lst (pa_cons (pe_tup (pa_cons pe_int (pa_cons pe_int pa_nil))) pa_nil)) (pv 4))) (blkOk_by (N := NPa) (sc := defScope s__law_is_parted) (by decide +kernel))
            (fun _ _ _ _ _ => pg_tup rfl (pgs_cons (pg_name (i := 7) scParted.nd rfl (Or.inl rfl)) (pgs_cons (pg_name (i := 8) scParted.nd rfl (Or.inl rfl)) pgs_nil))) (fun _ _ _ _ _ => pts_nil) (fun _ _ _ _ _ => pv 8))
          (pe_op op_cat (pe_lc (own := [("_law_begin", 7), ("_law_end", 8)]) (g := gTup K 2 (gCons (gName 7) (gCons (gName 8) gNil))) (tt := tYes) rfl scParted.nd (pi_list (pv 4)) (blkOk_by (N := NPa) (sc := defScope s__law_is_parted) (by decide +kernel))
            (fun _ _ _ _ _ => pg_tup rfl (pgs_cons (pg_name (i := 7) scParted.nd rfl (Or.inl rfl)) (pgs_cons (pg_name (i := 8) scParted.nd rfl (Or.inl rfl)) pgs_nil))) (fun _ _ _ _ _ => pts_nil) (fun _ _ _ _ _ => pv 7)) (pe_lst (pa_cons (pv 2) pa_nil))) (nomark _)) (pss_one (ps_ret pe_bl)) pss_nil)
      (pss_cons (ps_set (i := 5) scParted.nd rfl (Or.inr rfl) (pe_lc (own := [("_law_hole", 9)]) (g := gName 9) (tt := tYes) rfl scParted.nd (pi_list (pv 3)) (blkOk_by (N := NPa) (sc := defScope s__law_is_parted) (by decide +kernel))
        (fun _ _ _ _ _ => pg_name (i := 9) scParted.nd rfl (Or.inl rfl)) (fun _ _ _ _ _ => pts_nil) (fun _ _ _ _ _ => pe_prop (pv 9) T.cl pE GE hr2 bE .nil pass0 rfl)))
      (pss_one (ps_ret (pe_and (pe_not (pe_callB (cr_any rfl) (by rfl) hany (by decide +kernel) (pa_cons (pe_lc (own := [("_law_hole", 9)]) (g := gName 9) (tt := tYes) rfl scParted.nd (pi_list (pv 3)) (blkOk_by (N := NPa) (sc := defScope s__law_is_parted) (by decide +kernel))
          (fun _ _ _ _ _ => pg_name (i := 9) scParted.nd rfl (Or.inl rfl)) (fun _ _ _ _ _ => pts_nil) (fun _ _ _ _ _ => pe_cmpR (r := rIn K false) op_in_seq (Mw.pe_fldK (K := K) (pv 9) rfl) (pv 5) (by rfl))) pa_nil)))
        (pe_one (pe_cmpR op_eq (pe_prop (pv 0) U.cl pF GF hr2 bF .nil pass0 rfl) (pe_callB (cr_sum rfl) (by rfl) B.sum (by decide +kernel) (pa_cons (pe_lc (own := [("_law_hole", 9)]) (g := gName 9) (tt := tYes) rfl scParted.nd (pi_list (pv 3)) (blkOk_by (N := NPa) (sc := defScope s__law_is_parted) (by decide +kernel))
          (fun _ _ _ _ _ => pg_name (i := 9) scParted.nd rfl (Or.inl rfl)) (fun _ _ _ _ _ => pts_nil) (fun _ _ _ _ _ => Mw.pe_fldK (K := K) (pv 9) rfl)) pa_nil)) (nomark _))))))))), ?_⟩
    refine ⟨_, rfl, a, dx, _, rfl, ha, p6 "holes" (by decide +kernel) (by decide +kernel) (by decide +kernel) (by decide +kernel), a, d, n, mk, _, ts, rfl, sp, hd, tk, tl, n1, n2, fun H1 lh as L e1 nlh elh rl hL ll => ?_⟩
    refine ⟨lh, _, rfl, .inl (SqL.of elh), fun lh2 nlh2 => ?_⟩
    have s2 := put_same (o := .lst (as.map V.ref)) nlh2
    have eh2 : (upd H1 lh2 (.lst (as.map V.ref))) lh2 = some (.lst (as.map V.ref)) := upd_same
    have e2 := e1.trans s2
    have r2 := rl.same s2
    generalize upd H1 lh2 (.lst (as.map V.ref)) = H2 at s2 eh2 e2 r2 ⊢
    have alen := paired_len rl
    have glen := paired_len rg
    have plen := pm.length_eq
    have rg2 : RunsAt C H2 gs ps := rg.same e2
    have n0 : 0 ≤ n := by omega
    -- the parts
    refine ⟨_, rfl, _, rfl, lh2, gv, _, _, rfl, rfl, eh2, e2 _ _ hg, ?_, fun q nq => ?_⟩
    · rw [List.length_map, List.length_map, alen, glen, plen]
      exact Nat.le_trans (show _ ≤ 128 by omega) (by decide)
    have s3 := put_same (o := .lst (as.map V.ref ++ gs.map V.ref)) nq
    have eq3 : (upd H2 q (.lst (as.map V.ref ++ gs.map V.ref))) q = some (.lst ((as ++ gs).map V.ref)) := by rw [upd_same, List.map_append]
    generalize upd H2 q (.lst (as.map V.ref ++ gs.map V.ref)) = H3 at s3 eq3 ⊢
    have r3 : RunsAt C H3 (as ++ gs) (L ++ ps) := paired_app (r2.same s3) (rg2.same s3)
    have mlen : (as ++ gs).length = (L ++ ps).length := paired_len r3
    have mle : (L ++ ps).length ≤ 128 := by rw [List.length_append, plen]; omega
    refine ⟨q, rfl, ⟨_, SqL.of eq3⟩, fun D nD => lc_list (K := K) (a := q) (xs := (as ++ gs).map V.ref) (PTup H3 D fun i => [.int ((L ++ ps).getD i (0, 0)).1, .int (((L ++ ps).getD i (0, 0)).1 + ((L ++ ps).getD i (0, 0)).2)]) (.zero nD) (fun i H' _ ⟨_, z, _⟩ => SqL.of (z _ _ eq3)) ?_ ?_⟩
    · rintro i x H' hx p
      rw [List.getElem?_map] at hx
      obtain ⟨g, hgi, rfl⟩ := Option.map_eq_some_iff.mp hx
      have il : i < (L ++ ps).length := by rw [← mlen]; exact (List.getElem?_eq_some_iff.mp hgi).1
      have hLi : (L ++ ps)[i]? = some (L ++ ps)[i] := List.getElem?_eq_getElem il
      obtain ⟨dg, eg⟩ := paired_ith r3 hgi hLi
      have gd : (L ++ ps).getD i (0, 0) = (L ++ ps)[i] := by rw [List.getD_eq_getElem?_getD, hLi]; rfl
      obtain ⟨_, q1, _⟩ := id p
      refine ⟨rfl, _, rfl, g, C, dg, _, _, rfl, q1 _ _ eg, T.cl, T.nF, rf_f _ _, _, rfl, g, dg, _, rfl, q1 _ _ eg, g, _, _, rfl, ⟨dg, q1 _ _ eg⟩, (by show 2 ≤ sizeLine; decide), fun t nt => ?_⟩
      have := p.next nD (by omega) nt
      rw [gd] at this
      exact this
    rintro H4 ⟨qs, q1, q2, q3, q4⟩
    rw [List.length_map, mlen] at q3
    have e4 := (e2.trans s3).trans q1
    have at4 : ∀ (t : Addr), t ∈ qs → ∃ x, x ∈ (L ++ ps) ∧ H4 t = some (.tup [.int x.1, .int (x.1 + x.2)]) := fun t ht => by
      obtain ⟨i, hi, rfl⟩ := List.getElem_of_mem ht
      have il : i < (L ++ ps).length := by rw [← q3]; exact hi
      have := q4 i qs[i] (List.getElem?_eq_getElem hi)
      dsimp only at this
      rw [List.getD_eq_getElem?_getD, List.getElem?_eq_getElem il] at this
      exact ⟨(L ++ ps)[i], List.getElem_mem il, this⟩
    have mapk : (qs.map V.ref).map (kP H4) = (L ++ ps).map fun x => (x.1, x.1 + x.2) := by
      refine List.ext_getElem (by rw [List.length_map, List.length_map, List.length_map, q3]) fun i h1 h2 => ?_
      have hi : i < qs.length := by simpa using h1
      have il : i < (L ++ ps).length := by rw [← q3]; exact hi
      have := q4 i qs[i] (List.getElem?_eq_getElem hi)
      dsimp only at this
      rw [List.getD_eq_getElem?_getD, List.getElem?_eq_getElem il] at this
      rw [List.getElem_map, List.getElem_map, List.getElem_map]
      exact kP_at this
    refine ⟨D, _, kP H4, rfl, SqL.of q2, fun x hx => ?_, fun ys p srt stb np => ?_⟩
    · obtain ⟨t, ht, rfl⟩ := List.mem_map.mp hx
      obtain ⟨x, _, e⟩ := at4 t ht
      exact ⟨t, rfl, by rw [kP_at e]; exact e⟩
    have s5 := put_same (o := .lst ys) np
    have ep5 : (upd H4 p (.lst ys)) p = some (.lst ys) := upd_same
    have e5 := e4.trans s5
    generalize upd H4 p (.lst ys) = H5 at s5 ep5 e5 ⊢
    have yref : ∀ y ∈ ys, ∃ t, y = .ref t ∧ H5 t = some (.tup [.int (kP H4 y).1, .int (kP H4 y).2]) := fun y hy => by
      obtain ⟨t, ht, rfl⟩ := List.mem_map.mp (stb.perm.mem_iff.mp hy)
      obtain ⟨x, _, e⟩ := at4 t ht
      exact ⟨t, rfl, by rw [kP_at e]; exact s5 _ _ e⟩
    have ylen : ys.length ≤ 128 := by rw [stb.perm.length_eq, List.length_map, q3]; exact mle
    have prt : 0 :: (ys.map (kP H4)).map (·.2) = (ys.map (kP H4)).map (·.1) ++ [n] := by
      refine Sm.part_of n0 tk hL ?_ (List.pairwise_map.mpr (srt.imp fun {x y} h => ?_))
      · refine (stb.perm.map _).trans ?_
        rw [mapk]
        exact (List.Perm.append_left L pm).map _
      · have := SrtO.lexB_no.mp h
        omega
    -- the two lists
    refine ⟨(by show 2 ≤ sizeLine; decide), fun t0 nt0 => ⟨(by show 1 ≤ sizeLine; decide), fun l0 nl0 => ⟨_, rfl, l0, p, [.ref t0], ys, rfl, rfl, upd_same, ?_, ?_, fun q6 nq6 => ?_⟩⟩⟩
    · exact (put_same nl0) _ _ ((put_same nt0) _ _ ep5)
    · exact Nat.le_trans (show 1 + ys.length ≤ 129 by omega) (by decide)
    have s6 := (put_same (o := .tup [.int 0, .int 0]) nt0).trans ((put_same (o := .lst [.ref t0]) nl0).trans (put_same (o := .lst ([.ref t0] ++ ys)) nq6))
    have et6 := (put_same (o := .lst [.ref t0]) nl0).trans (put_same (o := .lst ([.ref t0] ++ ys)) nq6) _ _ (upd_same (H := H5) (a := t0) (o := .tup [.int 0, .int 0]))
    have eq6 : (upd (upd (upd H5 t0 (.tup [.int 0, .int 0])) l0 (.lst [.ref t0])) q6 (.lst ([.ref t0] ++ ys))) q6 = some (.lst (.ref t0 :: ys)) := upd_same
    generalize (upd (upd (upd H5 t0 (.tup [.int 0, .int 0])) l0 (.lst [.ref t0])) q6 (.lst ([.ref t0] ++ ys))) = H6 at s6 et6 eq6 ⊢
    have e6 := e5.trans s6
    have all6 : ∀ (i : Nat) (y : V), (V.ref t0 :: ys)[i]? = some y → ∃ t u v, y = .ref t ∧ H6 t = some (.tup [.int u, .int v]) ∧ v = (0 :: (ys.map (kP H4)).map (·.2)).getD i 0 := fun i y hy => by
      cases i with
      | zero =>
        cases hy
        exact ⟨t0, 0, 0, rfl, et6, rfl⟩
      | succ i =>
        have hy : ys[i]? = some y := by simpa using hy
        obtain ⟨t, rfl, e⟩ := yref y (List.mem_of_getElem? hy)
        refine ⟨t, _, _, rfl, s6 _ _ e, ?_⟩
        show _ = ((ys.map (kP H4)).map (·.2)).getD i 0
        rw [List.getD_eq_getElem?_getD, List.getElem?_map, List.getElem?_map, hy]
        rfl
    refine ⟨q6, rfl, ⟨_, SqL.of eq6⟩, fun D2 nD2 => lc_list (K := K) (a := q6) (xs := V.ref t0 :: ys) (PFlat H6 D2 fun i => .int ((0 :: (ys.map (kP H4)).map (·.2)).getD i 0)) (.zero nD2) (fun i H' _ z => SqL.of (z.1 _ _ eq6)) ?_ ?_⟩
    · rintro i x H' hx z
      obtain ⟨t, u, v, rfl, e, ev⟩ := all6 i x hx
      have il := (List.getElem?_eq_some_iff.mp hx).1
      refine ⟨t, _, rfl, SqT.of (z.1 _ _ e), rfl, _, _, rfl, _, _, rfl, rfl, rfl, _, rfl, ?_⟩
      have := z.next nD2 (by rw [List.length_cons] at il; omega) (Same.refl H')
      rw [← ev] at this
      exact this
    rintro H7 ⟨z7, ed2⟩
    have e7 := e6.trans z7
    have ep7 := z7 _ _ (s6 _ _ ep5)
    refine ⟨_, rfl, p, rfl, ⟨_, SqL.of ep7⟩, fun D3 nD3 => lc_list (K := K) (a := p) (xs := ys) (PFlat H7 D3 fun i => .int (((ys.map (kP H4)).map (·.1)).getD i 0)) (.zero nD3) (fun i H' _ z => SqL.of (z.1 _ _ ep7)) ?_ ?_⟩
    · rintro i x H' hx z
      obtain ⟨t, rfl, e⟩ := yref x (List.mem_of_getElem? hx)
      have il := (List.getElem?_eq_some_iff.mp hx).1
      refine ⟨t, _, rfl, SqT.of (z.1 _ _ (z7 _ _ (s6 _ _ e))), rfl, _, _, rfl, _, _, rfl, rfl, rfl, _, rfl, ?_⟩
      have := z.next nD3 (by omega) (Same.refl H')
      have ev : ((ys.map (kP H4)).map (·.1)).getD i 0 = (kP H4 (.ref t)).1 := by
        rw [List.getD_eq_getElem?_getD, List.getElem?_map, List.getElem?_map, hx]
        rfl
      rw [ev] at this
      exact this
    rintro H8 ⟨z8, ed3⟩
    have e8 := e7.trans z8
    refine ⟨_, rfl, (by show 1 ≤ sizeLine; decide), fun l4 nl4 => ?_⟩
    refine ⟨D3, l4, _, [.int n], rfl, rfl, (put_same nl4) _ _ ed3, upd_same, ?_, fun q9 nq9 => ?_⟩
    · rw [List.length_map, List.length_range]
      exact Nat.le_trans (show ys.length + 1 ≤ 129 by omega) (by decide)
    have s9 := (put_same (o := .lst [.int n]) nl4).trans (put_same (o := .lst ((List.range ys.length).map (fun i => V.int (((ys.map (kP H4)).map (·.1)).getD i 0)) ++ [V.int n])) nq9)
    have e9l : (upd (upd H8 l4 (.lst [.int n])) q9 (.lst ((List.range ys.length).map (fun i => V.int (((ys.map (kP H4)).map (·.1)).getD i 0)) ++ [V.int n]))) q9 = some (.lst ((0 :: (ys.map (kP H4)).map (·.2)).map V.int)) := by
      rw [upd_same, prt, List.map_append, range_getD V.int (by rw [List.length_map, List.length_map])]
      rfl
    generalize (upd (upd H8 l4 (.lst [.int n])) q9 (.lst ((List.range ys.length).map (fun i => V.int (((ys.map (kP H4)).map (·.1)).getD i 0)) ++ [V.int n]))) = H9 at s9 e9l ⊢
    have e9 := e8.trans s9
    have ed29 : H9 D2 = some (.lst ((0 :: (ys.map (kP H4)).map (·.2)).map V.int)) := by
      have := s9 _ _ (z8 _ _ ed2)
      rw [range_getD V.int (by rw [List.length_cons, List.length_cons, List.length_map, List.length_map])] at this
      exact this
    refine ⟨dIn _, dIn _, dp_in (SqL.of ed29), dp_in (SqL.of e9l), shaped_in _, shaped_in _, _, rfl, ?_⟩
    rw [eqv_self (shaped_in _)]
    refine iteF ?_
    -- the holes' ends
    have eh9 : H9 lh2 = some (.lst (as.map V.ref)) := ((((s3.trans q1).trans s5).trans s6).trans ((z7.trans z8).trans s9)) _ _ eh2
    have r9 : RunsAt C H9 as L := r2.same ((((s3.trans q1).trans s5).trans s6).trans ((z7.trans z8).trans s9))
    have hole : ∀ (i : Nat) (x : V) (H' : Hp), Same H9 H' → (as.map V.ref)[i]? = some x → ∃ g dg y, x = .ref g ∧ y ∈ L ∧ L.getD i (0, 0) = y ∧ i < 1000 ∧ H' g = some (.ins C dg (rf y.1 y.2)) := fun i x H' k' hx => by
      rw [List.getElem?_map] at hx
      obtain ⟨g, hgi, rfl⟩ := Option.map_eq_some_iff.mp hx
      have il : i < L.length := by rw [← alen]; exact (List.getElem?_eq_some_iff.mp hgi).1
      have hLi : L[i]? = some L[i] := List.getElem?_eq_getElem il
      obtain ⟨dg, eg⟩ := paired_ith r9 hgi hLi
      exact ⟨g, dg, L[i], rfl, List.getElem_mem il, by rw [List.getD_eq_getElem?_getD, hLi]; rfl, by omega, k' _ _ eg⟩
    refine ⟨_, rfl, lh2, rfl, ⟨_, SqL.of eh9⟩, fun D5 nD5 => lc_list (K := K) (a := lh2) (xs := as.map V.ref) (PFlat H9 D5 fun i => .int ((L.getD i (0, 0)).1 + (L.getD i (0, 0)).2)) (.zero nD5) (fun i H' _ z => SqL.of (z.1 _ _ eh9)) ?_ ?_⟩
    · rintro i x H' hx z
      obtain ⟨g, dg, y, rfl, hy, gy, il, eg⟩ := hole i x H' z.1 hx
      refine ⟨rfl, _, rfl, g, dg, _, rfl, eg, g, _, _, rfl, ⟨dg, eg⟩, ?_⟩
      have := z.next nD5 il (Same.refl H')
      rw [gy] at this
      exact this
    rintro HA ⟨zA, ed5⟩
    rw [List.length_map, alen] at ed5
    have eA := e9.trans zA
    -- no hole begins where another one ends
    refine ⟨_, rfl, lh2, rfl, ⟨_, SqL.of (zA _ _ eh9)⟩, fun D6 nD6 => lc_list (K := K) (a := lh2) (xs := as.map V.ref) (PFlat HA D6 fun _ => .bl false) (.zero nD6) (fun i H' _ z => SqL.of (z.1 _ _ (zA _ _ eh9))) ?_ ?_⟩
    · rintro i x H' hx z
      obtain ⟨g, dg, y, rfl, hy, gy, il, eg⟩ := hole i x H' (zA.trans z.1) hx
      refine ⟨rfl, _, rfl, g, C, dg, _, _, rfl, eg, T.cl, T.nF, rf_f _ _, _, rfl, D5, _, rfl, .inl (SqL.of (z.1 _ _ ed5)), rfl, ?_, ?_⟩
      · rw [List.all_eq_true]
        intro v hv
        obtain ⟨j, _, rfl⟩ := List.mem_map.mp hv
        rfl
      have no : inV (.int y.1) ((List.range L.length).map fun i => V.int ((L.getD i (0, 0)).1 + (L.getD i (0, 0)).2)) = false := by
        unfold inV
        rw [List.any_eq_false]
        intro v hv
        obtain ⟨j, hj, rfl⟩ := List.mem_map.mp hv
        have jl := List.mem_range.mp hj
        have gj : L.getD j (0, 0) = L[j] := by rw [List.getD_eq_getElem?_getD, List.getElem?_eq_getElem jl]; rfl
        rw [gj]
        have := Sm.apart hL y hy L[j] (List.getElem_mem jl)
        show ¬ ((L[j].1 + L[j].2 == y.1) = true)
        rw [beq_iff_eq]
        omega
      rw [if_neg Bool.false_ne_true, no]
      exact z.next nD6 il (Same.refl H')
    rintro HB ⟨zB, ed6⟩
    rw [List.length_map, alen] at ed6
    have eB := eA.trans zB
    refine ⟨D6, List.replicate L.length false, rfl, SqL.of ?_, ?_⟩
    · rw [ed6]
      congr 2
      refine List.ext_getElem (by simp) fun i h1 h2 => ?_
      simp
    rw [show (List.replicate L.length false).any id = false by rw [List.any_eq_false]; intro x hx; rw [(List.mem_replicate.mp hx).2]; decide]
    refine ⟨_, rfl, _, rfl, iteT ?_⟩
    have ehB := zB _ _ (zA _ _ eh9)
    refine ⟨_, rfl, a, dx, _, rfl, eB _ _ ha, a, d, n, mk, _, ts, rfl, sp.same eB, eB _ _ hd, ?_⟩
    refine ⟨_, rfl, lh2, rfl, ⟨_, SqL.of ehB⟩, fun D7 nD7 => lc_list (K := K) (a := lh2) (xs := as.map V.ref) (PFlat HB D7 fun i => .int (L.getD i (0, 0)).2) (.zero nD7) (fun i H' _ z => SqL.of (z.1 _ _ ehB)) ?_ ?_⟩
    · rintro i x H' hx z
      obtain ⟨g, dg, y, rfl, hy, gy, il, eg⟩ := hole i x H' ((zA.trans zB).trans z.1) hx
      refine ⟨rfl, _, rfl, g, C, dg, _, _, rfl, eg, T.cl, T.nM, rf_m _ _, ?_⟩
      have := z.next nD7 il (Same.refl H')
      rw [gy] at this
      exact this
    rintro HC ⟨zC, ed7⟩
    rw [List.length_map, alen] at ed7
    refine ⟨D7, L.map (·.2), rfl, SqL.of ?_, ?_⟩
    · rw [ed7, List.map_map, range_getD (fun x : Pr => V.int x.2) rfl]
      rfl
    rw [Sm.sum_holes n0 tk hL]
    refine ⟨rfl, ?_⟩
    rw [show decide (V.int (n - (ts.map (·.2)).sum) = V.int (n - (ts.map (·.2)).sum)) = true from decide_eq_true rfl]
    exact k _ (eB.trans zC)
end
end Sc
namespace Sc
open PySem L2 LamX Lf
/-! ### _law_mixed -/
def spMixed : Sp := fun vs H Q _ => ∃ (b l : Addr) (xs : List V) (N : Nat), vs = [.ref b, .ref l] ∧ H l = some (.lst xs) ∧ xs.length ≤ 64 ∧ BagAt H b N ∧ N + 64 ≤ 100000 ∧
  ∀ H' p ys, ys.Perm xs → OffN b H H' → BagAt H' b (N + 64) → H p = none → b ≠ p → H' p = some (.lst ys) → Q (.ref p) H'
theorem perm_eraseV {α : Type} {x : α} : ∀ {l : List α} {i : Nat}, l[i]? = some x → l.Perm (x :: l.eraseIdx i)
  | [], i, h => by simp at h
  | y :: r, 0, h => by cases h; exact List.Perm.refl _
  | y :: r, i + 1, h => ((perm_eraseV (l := r) (i := i) (by simpa using h)).cons y).trans (List.Perm.swap x y _)
theorem seqIxN {i : Int} {m : Nat} (h0 : 0 ≤ i) (h1 : i < m) : seqIndex? i m = some i.toNat := by
  unfold seqIndex?
  simp only [show ¬ i < 0 by omega, if_false]
  simp
  omega
abbrev NMx : List Str := ["_law_bag_here", "_law_some", "_law_rest", "_law_found"]
section
variable {P : Program} {w : World} {K : PySem.W.Frag} {mg : Str → Option Value} {base : Heap}
theorem scMixed : FnScope NMx ["_law_bag_here", "_law_some"] (defScope s__law_mixed) := ⟨rfl, rfl, rfl, by decide +kernel, rfl, by decide +kernel, by decide +kernel⟩
theorem ok_mixed {f fT : Addr} {fd fdT : FuncData} (F : Fun K "_law_mixed" "_law_mixed" s__law_mixed f fd) (B : TB mg) (GT : FnOk P w K mg base CX0 1 fT fdT ["_law_bag_here", "_law_many"] spTake) (DT : Def K mg "_law_take" fT fdT ["_law_bag_here", "_law_many"]) :
    FnOk P w K mg base CX0 2 f fd ["_law_bag_here", "_law_some"] spMixed := by
  refine F.ok scMixed (fun vs H Q E h => ?_) (fun cdv A outer s H vs Q E hr h => ?_)
  · obtain ⟨b, l, xs, N, rfl, _⟩ := h
    rfl
  · obtain ⟨b, l, xs, N, rfl, hl, xl, hb, hN, k⟩ := h
    refine ⟨_, pss_cons (ps_par (i := 2) (j := 3) rfl scMixed.nd rfl rfl (by decide) rfl rfl (pa_cons (pe_callTy call_list_of (by rfl) B.list (by decide +kernel) (pa_cons (pv 1) pa_nil)) (pa_cons (pe_lst pa_nil) pa_nil)) (by rfl))
      (pss_cons (ps_while PassesOwn.never (pt_cmpR (Nn.op_neNil hr.units0) (pv 2) (pe_lst pa_nil) (nomark _)) (pss_one (ps_expr (pe_bm PySem.F.plainAttrs_list PySem.F.slot_list_append PySem.F.type_list_append mt_append (pv 3)
        (pa_cons (pe_bm PySem.F.plainAttrs_list PySem.F.slot_list_pop PySem.F.type_list_pop mt_popAt (pv 2) (pa_cons (pe_call GT hr (by rfl) DT.at_ DT.kp DT.bd .nil pass0 (pa_cons (pv 0) (pa_cons (pe_callB call_len_seq (by rfl) B.len PySem.boot_len (pa_cons (pv 2) pa_nil)) pa_nil))) pa_nil)) pa_nil)))))
      (pss_one (ps_ret (pv 3)))), ?_⟩
    refine ⟨_, rfl, l, xs, rfl, .inl (SqL.of hl), fun r nr => ⟨Nat.zero_le _, fun q nq => ⟨_, _, rfl, ?_⟩⟩⟩
    have rq : r ≠ q := fun z => by rw [z, upd_same] at nq; cases nq
    have nq0 : H q = none := (put_same (o := .lst xs) nr).free nq
    have br : b ≠ r := hb.ne nr
    have bq : b ≠ q := hb.ne nq0
    refine ⟨fun m σ H' => ∃ (rs ys : List V), σ = [some (.ref b), some (.ref l), some (.ref r), some (.ref q)] ∧ H' r = some (.lst rs) ∧ H' q = some (.lst ys) ∧ (ys ++ rs).Perm xs ∧ OffN b H H' ∧ BagAt H' b (N + ys.length) ∧ m = rs.length, ⟨_, xs, [], rfl, by rw [upd_ne rq, upd_same], upd_same, List.Perm.refl _, (offN_put nr).put nq0, (hb.put br).put bq, rfl⟩, ?_⟩
    rintro m σ H' ⟨rs, ys, rfl, er, eq, pm, off, bg, rfl⟩
    have len : ys.length + rs.length = xs.length := by rw [← List.length_append]; exact pm.length_eq
    refine ⟨_, rfl, Nat.zero_le _, fun e0 ne0 => ?_⟩
    have s0 := put_same (o := .lst []) ne0
    have bg0 := bg.sameN s0
    have er0 := s0 _ _ er
    have eq0 := s0 _ _ eq
    have off0 := off.trans (offN_same s0)
    refine ⟨r, e0, _, rfl, rfl, SqL.of er0, SqL.of upd_same, _, rfl, ?_⟩
    generalize upd H' e0 (.lst []) = H2 at bg0 er0 eq0 off0 ⊢
    cases rs with
    | nil =>
      refine iteF ⟨_, rfl, k H2 q ys ?_ off0 (bg0.le (by omega)) nq0 bq eq0⟩
      rw [List.append_nil] at pm
      exact pm
    | cons y0 rest =>
      rw [List.length_cons] at len
      refine iteT ⟨fun σ' H'' => ∃ (rs2 ys2 : List V), σ' = [some (.ref b), some (.ref l), some (.ref r), some (.ref q)] ∧ H'' r = some (.lst rs2) ∧ H'' q = some (.lst ys2) ∧ (ys2 ++ rs2).Perm xs ∧ OffN b H H'' ∧ BagAt H'' b (N + ys2.length) ∧ rs2.length = rest.length, fun σ' H'' ⟨rs2, ys2, z1, z2, z3, z4, z5, z6, z7⟩ => ⟨rest.length, by simp, rs2, ys2, z1, z2, z3, z4, z5, z6, z7.symm⟩, ?_⟩
      refine ⟨_, rfl, .inl ⟨rfl, _, SqL.of eq0⟩, _, rfl, .inl ⟨rfl, _, SqL.of er0⟩, _, rfl, _, rfl, r, _, rfl, .inl (SqL.of er0), b, ((y0 :: rest).length : Int), N + ys.length, rfl, by rw [List.length_cons]; omega, by rw [List.length_cons]; omega, bg0, by omega, fun x H3 x0 x1 b3 o3 => ?_⟩
      rw [List.length_cons] at x1
      have er3 := (o3 r (Ne.symm br)).trans er0
      have eq3 := (o3 q (Ne.symm bq)).trans eq0
      have xl2 : x.toNat < (y0 :: rest).length := by rw [List.length_cons]; omega
      have hx : (y0 :: rest)[x.toNat]? = some (y0 :: rest)[x.toNat] := List.getElem?_eq_getElem xl2
      generalize (y0 :: rest)[x.toNat] = y at hx
      refine ⟨r, y0 :: rest, x, x.toNat, y, rfl, rfl, er3, by omega, by omega, seqIxN x0 (by rw [List.length_cons]; omega), hx, ?_⟩
      refine ⟨q, ys, y, rfl, rfl, by rw [upd_ne (Ne.symm rq)]; exact eq3, Nat.lt_of_lt_of_le (show ys.length < 65 by omega) (by decide), ?_⟩
      refine ⟨(y0 :: rest).eraseIdx x.toNat, ys ++ [y], rfl, by rw [upd_ne rq, upd_same], upd_same, ?_, ((off0.step o3).put nr).put nq0, ?_, ?_⟩
      · rw [List.append_assoc]
        exact ((perm_eraseV hx).symm.append_left ys).trans pm
      · have b5 := (b3.put (o := .lst ((y0 :: rest).eraseIdx x.toNat)) br).put (o := .lst (ys ++ [y])) bq
        rw [List.length_append]
        exact b5
      · rw [List.length_eraseIdx, if_pos xl2, List.length_cons]
        omega
end
end Sc
namespace Sc
open PySem L2 LamX Lf
abbrev NL : List Str := ["_law_script", "_law_policies", "_law_k", "_law_bag_here", "_law_pages", "_law_policy", "_law_one", "_law_other", "_law_given", "_law_turn", "_law_again", "_law_many", "_law_run", "_law_like", "_law_gone", "_law_space"]
abbrev qL : Str := "law.<locals>.<lambda>"
/-- the law's lambda -/
abbrev lamE : Expr := match (defBody s_law).getD 0 (.Pass ⟨0, 0, 0, 0⟩) with
  | .Assign _ (.List es _) _ => es.getD 5 (.Constant .none 0 ⟨0, 0, 0, 0⟩)
  | _ => .Constant .none 0 ⟨0, 0, 0, 0⟩
abbrev FL : LF := match lamE with
  | .Lambda ps bd sc _ => ⟨qL, ps, bd, sc⟩
  | _ => ⟨qL, defArgs s_law, .Constant .none 0 ⟨0, 0, 0, 0⟩, defScope s_law⟩
abbrev ixM (n : Nat) : Nat := n / 2
theorem scLam : FnScope ["_law_fits", "_law_many"] ["_law_fits", "_law_many"] FL.scope := ⟨rfl, rfl, rfl, by decide +kernel, rfl, by decide +kernel, by decide +kernel⟩
def rLenL (K : PySem.W.Frag) : List V → Hp → VK → Prop := fun xs H Q => ∃ p ys, xs = [V.ref p] ∧ SqL K H p ys ∧ Q (V.int (ys.length : Int)) H
theorem call_lenL {X : Cx} : CallR X (.builtin "len") (rLenL X.K) := fun pins s σ H xs us Q I r ⟨p, ys, e, h, q⟩ => call_len_seq pins s σ H xs us Q I r ⟨p, ys, e, .inl h, q⟩
section
variable {P : Program} {w : World} {K : PySem.W.Frag} {mg : Str → Option Value} {base : Heap} {C : Addr}
theorem lok_mid (B : TB mg) : LOk P w K mg base 2 FL (spL C ixM) := by
  refine lok_of (k := 1) (N := ["_law_fits", "_law_many"]) (ps := ["_law_fits", "_law_many"]) scLam (fun vs H Q h => ?_) (fun pm cv ctv us hl => match us, hl with | [_, _], _ => rfl)
    (fun f c A outer s H hr => pe_ix (r := rIxL K) ix_list (pv 0) (pe_op op_fdiv (pe_callB (r := rLenL K) call_lenL (by rfl) B.len PySem.boot_len (pa_cons (pv 0) pa_nil)) pe_int) (fun _ _ => rfl)) (fun vs H Q h => ?_)
  · obtain ⟨l, m, as, L, rfl, _⟩ := h
    rfl
  · obtain ⟨l, m, as, L, rfl, hl, rs, ne, ll, k⟩ := h
    have alen := paired_len rs
    have pos : 0 < L.length := List.length_pos_iff.mpr ne
    have hi : L.length / 2 < as.length := by omega
    refine ⟨_, rfl, _, rfl, l, _, rfl, SqL.of hl, _, _, rfl, rfl, ⟨by decide, by decide⟩, l, as.map V.ref, _, .ref as[L.length / 2], rfl, rfl, SqL.of hl, ?_, k _ (List.getElem?_eq_getElem hi)⟩
    refine at_of (j := L.length / 2) ?_ (by rw [List.getElem?_map, List.getElem?_eq_getElem hi]; rfl)
    rw [List.length_map, alen]
    omega
end
end Sc
namespace Sc
open PySem L2 LamX Lf
theorem seqExt {K : PySem.W.Frag} {H H' : Hp} {a : Addr} {xs : List V} (h : SqL K H a xs) (e : ExtN H H') : SqL K H' a xs := by
  rcases h with h | h
  · refine .inl ?_
    rcases h with h | ⟨u, h⟩
    · exact .inl (e _ _ h (fun ps z => by cases z))
    · exact .inr ⟨u, e _ _ h (fun ps z => by cases z)⟩
  · exact .inr h
theorem BagAt.lst {H : Hp} {b : Addr} {N : Nat} (h : BagAt H b N) : ∃ xs, H b = some (.lst xs) := by
  obtain ⟨_, _, _, e, _⟩ := h
  exact ⟨_, e⟩
theorem tabs_offN {Ts : Tl} {H H' : Hp} {b : Addr} {N : Nat} (t : Tabs Ts H) (hb : BagAt H b N) (o : OffN b H H') : Tabs Ts H' := by
  obtain ⟨xs, e⟩ := hb.lst
  exact tabs_put2 t (fun q o' q1 _ y => o.same y q1) e e lst_nt lst_nt
/-- one of the two spaces -/
structure Spc (S : Addr) (H : Hp) (sp d : Addr) (n : Int) (pol : V) (mk : Int) (ts : List Pr) : Prop where
  at_ : SpAt S H sp n pol mk d
  dct : H d = some (.dK (kvI ts))
/-- some runs in a list -/
structure Giv (C : Addr) (H : Hp) (gv : Addr) (gs : List Addr) (ps : List Pr) : Prop where
  at_ : H gv = some (.lst (gs.map V.ref))
  run : RunsAt C H gs ps
structure J (C S : Addr) (Ts : Tl) (F : LF) (ix : Nat → Nat) (Hs H : Hp) (b sp1 d1 sp2 d2 : Addr) (n : Int) (pol : V) (z : Str) (pk : List Pr → Int → Int → Option Int) (mk1 : Int) (ts1 : List Pr) (mk2 : Int) (ts2 : List Pr) (N : Nat) : Prop where
  s0 : ExtN Hs H
  nb : NewT Hs b
  n1 : NewT Hs sp1
  n2 : NewT Hs d1
  n3 : NewT Hs sp2
  n4 : NewT Hs d2
  ns : sp1 ≠ sp2
  nd : d1 ≠ d2
  bag : BagAt H b N
  tab : Tabs Ts H
  pol_ : PolA F ix H pol z pk
  one : Spc S H sp1 d1 n pol mk1 ts1
  two : Spc S H sp2 d2 n pol mk2 ts2
section
variable {C S : Addr} {Ts : Tl} {F : LF} {ix : Nat → Nat} {Hs H H' : Hp} {b sp1 d1 sp2 d2 sp d gv : Addr} {n : Int} {pol : V} {z : Str} {pk : List Pr → Int → Int → Option Int} {mk mk1 mk2 : Int} {ts ts1 ts2 : List Pr} {N M : Nat} {gs : List Addr} {ps : List Pr}
theorem Spc.extN (s : Spc S H sp d n pol mk ts) (k : ExtN H H') : Spc S H' sp d n pol mk ts := ⟨s.at_.extN k, k _ _ s.dct (fun _ q => by cases q)⟩
theorem Spc.same (s : Spc S H sp d n pol mk ts) (k : Same H H') : Spc S H' sp d n pol mk ts := s.extN (ExtN.of k)
theorem Spc.ne (s : Spc S H sp d n pol mk ts) {q : Addr} {xs : List V} (e : H q = some (.lst xs)) : q ≠ sp ∧ q ≠ d := by
  obtain ⟨dx, fs, y, _⟩ := s.at_
  refine ⟨fun w => ?_, fun w => ?_⟩
  · rw [w, y] at e
    cases e
  · rw [w, s.dct] at e
    cases e
theorem Spc.off (s : Spc S H sp d n pol mk ts) {xs : List V} (e : H b = some (.lst xs)) (o : OffN b H H') : Spc S H' sp d n pol mk ts := by
  have ne := s.ne e
  obtain ⟨dx, fs, y, r⟩ := s.at_
  exact ⟨⟨dx, fs, o.same y (Ne.symm ne.1), r⟩, o.same s.dct (Ne.symm ne.2)⟩
/-- another space is written to -/
theorem Spc.keep (s : Spc S H sp d n pol mk ts) {sp' d' : Addr} {mk' : Int} {ts' : List Pr} (s' : Spc S H sp' d' n pol mk' ts') (h1 : sp' ≠ sp) (h2 : d' ≠ d) (k : putT sp' d' H H') : Spc S H' sp d n pol mk ts := by
  obtain ⟨dx, fs, y, r⟩ := s.at_
  obtain ⟨dx', fs', y', _⟩ := s'.at_
  refine ⟨⟨dx, fs, k _ _ (Ne.symm h1) (fun w => ?_) (fun _ q => by cases q) y, r⟩, k _ _ (fun w => ?_) (Ne.symm h2) (fun _ q => by cases q) s.dct⟩
  · rw [w, s'.dct] at y
    cases y
  · have := s.dct
    rw [w, y'] at this
    cases this
theorem J.swap (j : J C S Ts F ix Hs H b sp1 d1 sp2 d2 n pol z pk mk1 ts1 mk2 ts2 N) : J C S Ts F ix Hs H b sp2 d2 sp1 d1 n pol z pk mk2 ts2 mk1 ts1 N :=
  { j with n1 := j.n3, n2 := j.n4, n3 := j.n1, n4 := j.n2, ns := Ne.symm j.ns, nd := Ne.symm j.nd, one := j.two, two := j.one }
theorem J.ext (j : J C S Ts F ix Hs H b sp1 d1 sp2 d2 n pol z pk mk1 ts1 mk2 ts2 N) (k : ExtN H H') (t : Tabs Ts H') : J C S Ts F ix Hs H' b sp1 d1 sp2 d2 n pol z pk mk1 ts1 mk2 ts2 N := by
  obtain ⟨l, x, c, q, r⟩ := j.bag
  exact { j with s0 := j.s0.trans k, bag := ⟨l, x, c, k b _ q (fun _ w => nomatch w), r⟩, tab := t, pol_ := j.pol_.stay (exts_ext k), one := j.one.extN k, two := j.two.extN k }
theorem J.same (j : J C S Ts F ix Hs H b sp1 d1 sp2 d2 n pol z pk mk1 ts1 mk2 ts2 N) (k : Same H H') : J C S Ts F ix Hs H' b sp1 d1 sp2 d2 n pol z pk mk1 ts1 mk2 ts2 N := j.ext (ExtN.of k) (j.tab.ext k)
theorem J.draw (j : J C S Ts F ix Hs H b sp1 d1 sp2 d2 n pol z pk mk1 ts1 mk2 ts2 N) (hb : BagAt H' b M) (o : OffN b H H') : J C S Ts F ix Hs H' b sp1 d1 sp2 d2 n pol z pk mk1 ts1 mk2 ts2 M := by
  obtain ⟨xs, e⟩ := j.bag.lst
  exact { j with s0 := fun q o' y nt => o.same (j.s0 _ _ y nt) (j.nb.ne y nt), bag := hb, tab := tabs_offN j.tab j.bag o, pol_ := j.pol_.stay fun q φ y => o.same y (fun w => by rw [w, e] at y; cases y), one := j.one.off e o, two := j.two.off e o }
theorem J.put (j : J C S Ts F ix Hs H b sp1 d1 sp2 d2 n pol z pk mk1 ts1 mk2 ts2 N) {mk' : Int} {ts' : List Pr} (k : putT sp1 d1 H H') (t : Tabs Ts H') (s : Spc S H' sp1 d1 n pol mk' ts') : J C S Ts F ix Hs H' b sp1 d1 sp2 d2 n pol z pk mk' ts' mk2 ts2 N := by
  obtain ⟨l, x, c, q, r⟩ := j.bag
  have ne := j.one.ne q
  obtain ⟨dx, fs, y, _⟩ := j.one.at_
  exact { j with s0 := fun q' o' w nt => k _ _ (j.n1.ne w nt) (j.n2.ne w nt) nt (j.s0 _ _ w nt), bag := ⟨l, x, c, k b _ ne.1 ne.2 (fun _ w => nomatch w) q, r⟩, tab := t,
                 pol_ := j.pol_.stay (exts_put y j.one.dct (fun _ w => by cases w) (fun _ w => by cases w) k), one := s, two := j.two.keep j.one j.ns j.nd k }
theorem J.give (j : J C S Ts F ix Hs H b sp1 d1 sp2 d2 n pol z pk mk1 ts1 mk2 ts2 N) {ts' : List Pr} (k : ∀ q o, q ≠ d1 → H q = some o → H' q = some o) (e : H' d1 = some (.dK (kvI ts'))) (s : SpAt S H' sp1 n pol mk1 d1) : J C S Ts F ix Hs H' b sp1 d1 sp2 d2 n pol z pk mk1 ts' mk2 ts2 N := by
  obtain ⟨dx, fs, y, _⟩ := j.one.at_
  exact j.put (fun q o _ q2 _ w => k q o q2 w) (tabs_put2 j.tab (fun q o _ q2 w => k q o q2 w) y j.one.dct ins_nt dk_nt) ⟨s, e⟩
/-! ### lists of runs beside them -/
theorem run_sp {f m : Int} {g : Addr} (s : Spc S H sp d n pol mk ts) (r : RunAt C H g f m) : g ≠ sp ∧ g ≠ d := by
  obtain ⟨dg, eg⟩ := r
  obtain ⟨dx, fs, y, p1, _⟩ := s.at_
  refine ⟨fun w => ?_, fun w => ?_⟩
  · rw [w, y] at eg
    cases eg
    rw [rf_no _ _ (by decide +kernel) (by decide +kernel)] at p1
    cases p1
  · rw [w, s.dct] at eg
    cases eg
theorem Giv.extN (g : Giv C H gv gs ps) (k : ExtN H H') : Giv C H' gv gs ps := ⟨k _ _ g.at_ (fun _ q => by cases q), L2.Paired.mapP g.run fun a r ⟨dx, y⟩ => ⟨dx, k _ _ y (fun _ q => by cases q)⟩⟩
theorem Giv.same (g : Giv C H gv gs ps) (k : Same H H') : Giv C H' gv gs ps := g.extN (ExtN.of k)
theorem Giv.off {xs : List V} (g : Giv C H gv gs ps) (e : H b = some (.lst xs)) (ne : gv ≠ b) (o : OffN b H H') : Giv C H' gv gs ps :=
  ⟨o.same g.at_ ne, L2.Paired.mapP g.run fun a r y => by
    have n1 := RunAt.ne y e lst_ins
    obtain ⟨dx, y⟩ := y
    exact ⟨dx, o.same y n1⟩⟩
theorem Giv.put (g : Giv C H gv gs ps) (s : Spc S H sp d n pol mk ts) (k : putT sp d H H') : Giv C H' gv gs ps :=
  ⟨k _ _ (s.ne g.at_).1 (s.ne g.at_).2 (fun _ q => by cases q) g.at_, L2.Paired.mapP g.run fun a r y => by
    have n1 := run_sp s y
    obtain ⟨dx, y⟩ := y
    exact ⟨dx, k _ _ n1.1 n1.2 (fun _ q => by cases q) y⟩⟩
theorem run_put {f m : Int} {g : Addr} (r : RunAt C H g f m) (s : Spc S H sp d n pol mk ts) (k : putT sp d H H') : RunAt C H' g f m := by
  have n1 := run_sp s r
  obtain ⟨dx, y⟩ := r
  exact ⟨dx, k _ _ n1.1 n1.2 (fun _ q => by cases q) y⟩
theorem RunAt.extN {f m : Int} {g : Addr} (r : RunAt C H g f m) (k : ExtN H H') : RunAt C H' g f m := by
  obtain ⟨dx, y⟩ := r
  exact ⟨dx, k _ _ y (fun _ q => by cases q)⟩
/-- the list of runs itself is written to -/
theorem J.upd (j : J C S Ts F ix Hs H b sp1 d1 sp2 d2 n pol z pk mk1 ts1 mk2 ts2 N) (ng : NewT Hs gv) {xs ys : List V} (e : H gv = some (.lst xs)) (bg : b ≠ gv) : J C S Ts F ix Hs (upd H gv (.lst ys)) b sp1 d1 sp2 d2 n pol z pk mk1 ts1 mk2 ts2 N := by
  have kp : ∀ q o, q ≠ gv → H q = some o → (L2.upd H gv (.lst ys)) q = some o := fun q o q1 y => by rw [upd_ne q1]; exact y
  obtain ⟨l, x, c, q, r⟩ := j.bag
  have spk : ∀ {sp d mk ts}, Spc S H sp d n pol mk ts → Spc S (L2.upd H gv (.lst ys)) sp d n pol mk ts := fun s => by
    have ne := s.ne e
    exact ⟨s.at_.put e lst_ins, kp _ _ (Ne.symm ne.2) s.dct⟩
  exact { j with s0 := fun q o w nt => kp _ _ (ng.ne w nt) (j.s0 _ _ w nt), bag := ⟨l, x, c, kp b _ bg q, r⟩, tab := tabs_put2 j.tab (fun q o q1 _ w => kp q o q1 w) e e lst_nt lst_nt,
                 pol_ := j.pol_.stay fun q φ y => kp _ _ (fun w => by rw [w, e] at y; cases y) y, one := spk j.one, two := spk j.two }
theorem Giv.add (g : Giv C H gv gs ps) {r : Addr} {f m : Int} (rr : RunAt C H r f m) : Giv C (upd H gv (.lst (gs.map V.ref ++ [.ref r]))) gv (gs ++ [r]) (ps ++ [(f, m)]) :=
  ⟨by rw [upd_same, List.map_append]; rfl, RunsAt.snoc (g.run.put g.at_ lst_ins) (by
    have n1 := RunAt.ne rr g.at_ lst_ins
    obtain ⟨dx, y⟩ := rr
    exact ⟨dx, by rw [upd_ne n1]; exact y⟩)⟩
end
end Sc
namespace Sc
open PySem L2 LamX Lf
theorem szOk_uniq {z : Str} {s t m : Int} (h : szOk z s m) (k : szOk z t m) : s = t := by
  unfold szOk at h k
  by_cases q : z = "halves"
  · rw [if_pos q] at h k
    obtain ⟨_, a1, ⟨i, a2⟩, a3⟩ := h
    obtain ⟨_, b1, ⟨j, b2⟩, b3⟩ := k
    have h1 := a3 j (by rw [← b2]; exact b1)
    have h2 := b3 i (by rw [← a2]; exact a1)
    omega
  · rw [if_neg q] at h k
    rw [h, k]
theorem paired_perm {α β : Type} {F : α → β → Prop} {hs gs : List α} (p : hs.Perm gs) : ∀ {ps : List β}, Paired F gs ps → ∃ qs, Paired F hs qs ∧ qs.Perm ps := by
  induction p with
  | nil => intro ps h; cases h; exact ⟨[], .nil, List.Perm.refl _⟩
  | cons x _ ih =>
    intro ps h
    cases h with
    | cons a t =>
      obtain ⟨qs, h1, h2⟩ := ih t
      exact ⟨_ :: qs, .cons a h1, h2.cons _⟩
  | swap x y l =>
    intro ps h
    cases h with
    | cons a t =>
      cases t with
      | cons b u => exact ⟨_ :: _ :: _, .cons b (.cons a u), List.Perm.swap _ _ _⟩
  | trans _ _ ih1 ih2 =>
    intro ps h
    obtain ⟨qs, h1, h2⟩ := ih2 h
    obtain ⟨rs, h3, h4⟩ := ih1 h1
    exact ⟨rs, h3, h4.trans h2⟩
theorem refs_perm {ys : List V} : ∀ {gs : List Addr}, ys.Perm (gs.map V.ref) → ∃ hs : List Addr, ys = hs.map V.ref ∧ hs.Perm gs := fun {gs} p => by
  have key : ∀ {xs ys : List V}, ys.Perm xs → ∀ gs : List Addr, xs = gs.map V.ref → ∃ hs : List Addr, ys = hs.map V.ref ∧ hs.Perm gs := fun {xs ys} p => by
    induction p with
    | nil =>
      intro gs e
      cases gs with
      | nil => exact ⟨[], rfl, List.Perm.refl _⟩
      | cons _ _ => cases e
    | cons x _ ih =>
      intro gs e
      cases gs with
      | nil => cases e
      | cons g r =>
        obtain ⟨e1, e2⟩ := List.cons.inj e
        obtain ⟨hs, h1, h2⟩ := ih r e2
        exact ⟨g :: hs, by rw [h1, e1]; rfl, h2.cons g⟩
    | swap x y l =>
      intro gs e
      cases gs with
      | nil => cases e
      | cons g r =>
        obtain ⟨e1, e2⟩ := List.cons.inj e
        cases r with
        | nil => cases e2
        | cons g2 r2 =>
          obtain ⟨e3, e4⟩ := List.cons.inj e2
          exact ⟨g2 :: g :: r2, by rw [e1, e3, e4]; rfl, List.Perm.swap _ _ _⟩
    | trans _ _ ih1 ih2 =>
      intro gs e
      obtain ⟨hs, h1, h2⟩ := ih2 gs e
      obtain ⟨ks, h3, h4⟩ := ih1 hs h1
      exact ⟨ks, h3, h4.trans h2⟩
  exact key p gs rfl
/-- the whole space is answered -/
theorem ans_all {F : LF} {H : Hp} {pol : V} {z : Str} {pk : List Pr → Int → Int → Option Int} {n mk : Int} (p : PolA F ixM H pol z pk) (hz : z ≠ "halves") (n1 : 1 ≤ n) : ans pk [(0, n)] n mk ≠ none := by
  have hb : big [(0, n)] n = [(0, n)] := by
    unfold big
    rw [List.filter_cons_of_pos (by simp), List.filter_nil]
  unfold ans
  rw [hb, if_neg (by simp)]
  rcases p with ⟨_, ⟨rfl, rfl⟩ | ⟨rfl, rfl⟩ | ⟨rfl, rfl⟩ | ⟨rfl, rfl⟩ | ⟨rfl, rfl⟩⟩ | ⟨f, _, _, _, rfl⟩
  · exact fun h => by cases h
  · unfold pkSz isB
    simp
  · unfold pkSz isB
    simp
  · unfold pkNext
    intro h
    simp at h
  · exact absurd rfl hz
  · unfold pkFn ixM
    simp
theorem cut_drop {xs : List V} {r : Int} (r0 : 0 ≤ r) : cutV xs (some r) none = xs.drop r.toNat := by
  obtain ⟨i, rfl⟩ : ∃ i : Nat, r = i := ⟨r.toNat, by omega⟩
  unfold cutV
  rw [HT.sIx_nat, HT.sIx_none]
  have e : ((i : Nat) : Int).toNat = i := by omega
  rw [e]
  by_cases h : i ≤ xs.length
  · rw [Nat.min_eq_left h, List.take_of_length_le (by rw [List.length_drop]; exact Nat.le_refl _)]
  · rw [Nat.min_eq_right (by omega), List.drop_of_length_le (by omega), List.drop_of_length_le (by omega), List.take_nil]
theorem cut_take {xs : List V} {k : Nat} : cutV xs none (some (k : Int)) = xs.take k := by
  unfold cutV
  rw [HT.sIx_nat, HT.sIx_none, List.drop_zero, Nat.sub_zero]
  by_cases h : k ≤ xs.length
  · rw [Nat.min_eq_left h]
  · rw [Nat.min_eq_right (by omega), List.take_of_length_le (Nat.le_refl _), List.take_of_length_le (by omega)]
theorem paired_drop {α β : Type} {F : α → β → Prop} : ∀ {xs : List α} {ys : List β} (k : Nat), Paired F xs ys → Paired F (xs.drop k) (ys.drop k)
  | _, _, 0, h => h
  | _, _, k + 1, .nil => .nil
  | _, _, k + 1, .cons _ t => paired_drop k t
theorem shaped_end (n : Int) : SeqAt.shaped (.list [Eq0.dPr [(0, n)], .int n]) = true := by
  have h1 : PyData.depth (Eq0.dPr [(0, n)]) ≤ 2 := by
    have := Eq0.depth_pr [(0, n)]
    unfold Eq0.dPr
    rw [PyData.depth]
    omega
  have h2 : PyData.canLay0 (Eq0.dPr [(0, n)]) = true := by
    unfold Eq0.dPr
    rw [PyData.canLay0, Eq0.canlay_pr]
  unfold SeqAt.shaped
  rw [Bool.and_eq_true]
  constructor
  · rw [PyData.canLay0, PyData.canLayAll0, PyData.canLayAll0, PyData.canLayAll0, PyData.canLay0, h2]
    rfl
  · refine decide_eq_true ?_
    rw [PyData.depth, PyData.depthAll, PyData.depthAll, PyData.depthAll, PyData.depth]
    omega
end Sc
namespace Sc
open PySem L2 LamX Lf
def spLaw (K : PySem.W.Frag) (pB pW pL : Addr) : Sp := fun vs H Q _ => ∃ (a : Addr) (ns : List Int), vs = [.ref a] ∧ SqL K H a (ns.map V.int) ∧ ns.length ≤ 63 ∧ H pB = some (.tbl #[]) ∧ H pW = some (.tbl #[]) ∧ H pL = some (.tbl #[]) ∧ ∀ H', Q (.bl true) H'
structure Mth (P : Program) (w : World) (K : PySem.W.Frag) (mg : Str → Option Value) (base : Heap) (CX : CXT) (k : Nat) (x : Str) (ps : List Str) (sp : Sp) (f : Addr) (fd : FuncData) : Prop where
  ok : FnOk P w K mg base CX k f fd ps sp
  df : Def K mg x f fd ps
/-- x == y: both None, or two runs -/
def rEqN (K : PySem.W.Frag) (C : Addr) : R2 := fun x y H Q => (x = .non ∧ y = .non ∧ Q (.bl true) H) ∨ Ow.rEqO K C (spEqA K C) C8.E0 x y H Q
theorem op_eqN {X : Cx} {C f : Addr} {fd : FuncData} (OQ : EqM X.prog X.w X.K X.mg X.base C f fd) (hr : Room 2 X.A) : OpR X (compareOp .Eq) (rEqN X.K C) := by
  rintro pins s σ H x y v u Q I rx ry (⟨rfl, rfl, q⟩ | h)
  · exact op_eq pins s σ H _ _ v u Q I rx ry ⟨rfl, by rw [decide_eq_true rfl]; exact q⟩
  · exact Ow.op_eqO OQ.ok (hr.mono (by decide)) OQ.at_ OQ.fn OQ.bd pass0 pins s σ H x y v u Q I rx ry h
section
variable {P : Program} {w : World} {K : PySem.W.Frag} {mg : Str → Option Value} {base : Heap} {C S CN : Addr} {mc : Value} {tM : Tok}
theorem scLaw : FnScope NL ["_law_script"] (defScope s_law) := ⟨rfl, rfl, rfl, by decide +kernel, rfl, by decide +kernel, by decide +kernel⟩
theorem ok_law {f c pB pW pL fB fT fS0 fP fM fA fI fGv fQ : Addr} {fdB fdT fdS fdP fdM fdA fdI fdGv fdQ : FuncData} {oc kV doc pm ct : Value} {od an : Option Addr} {sl : Array (Option Value)}
    (lk : K.lookup f = some ⟨oc, od, .func (PySem.W.fnOf "law" "law" (defArgs s_law) (defBody s_law) (defScope s_law) .none kV doc pm an (.ref c) ct), sl⟩) (hcd : PySem.W.codeIn K (.ref c) "law" = true)
    (T : TR K mg C mc tM) (Z : IsR K C) (U : TS K mg S) (B : TB mg) {Ts : Tl} (hTs : Ts = [(pB, qB), (pW, qW), (pL, qL)])
    (TBl : TabB base mg c pL) (hmT : (pL, qL) ∈ Ts) (hu : ∀ p ∈ Ts, p.1 = pL → p.2 = qL)
    (YB : Mth P w K mg base CX0 1 "_law_bag" ["_law_script", "_law_at"] (spBag K) fB fdB) (YT : Mth P w K mg base CX0 1 "_law_take" ["_law_bag_here", "_law_many"] spTake fT fdT)
    (YS : Mth P w K mg base CX0 8 "_law_seen" ["_law_space"] (spSeen S) fS0 fdS) (YP : Mth P w K mg base CX0 8 "_law_is_parted" ["_law_space", "_law_given", "_law_pages"] (spParted C S) fP fdP)
    (YM : Mth P w K mg base CX0 2 "_law_mixed" ["_law_bag_here", "_law_some"] spMixed fM fdM) (YA : Mth P w K mg base CX0 11 "_law_asked" ["_law_space", "_law_many"] (spLAskA Ts C S FL ixM) fA fdA)
    (MS : Mk K S fI) (GS : FnOk P w K mg base CX0 1 fI fdI ["self", "pages", "policy"] (spSInitA S FL)) (bS : Binds K fdI ["self", "pages", "policy"] [])
    (GGv : FnOk P w K mg base CX0 1 fGv fdGv ["self", "run"] (spGive C S)) (mGv : Meth K S "give_back" fGv) (bGv : Binds K fdGv ["self", "run"] []) (OQ : EqM P w K mg base C fQ fdQ) :
    FnOk P w K mg base CX0 12 f (PySem.W.fnOf "law" "law" (defArgs s_law) (defBody s_law) (defScope s_law) .none kV doc pm an (.ref c) ct) ["_law_script"] (spLaw K pB pW pL) := by
  refine fn_of lk hcd scLaw (fun vs H Q E h => ?_) (fun A outer s H vs Q E hr h => ?_)
  · obtain ⟨a, ns, rfl, _⟩ := h
    rfl
  · obtain ⟨a, ns, rfl, hS, hl, hPB, hPW, hPL, k⟩ := h
    have hr1 : Room 1 _ := hr.mono (by decide)
    have hr2 : Room 2 _ := hr.mono (by decide)
    have hr8 : Room 8 _ := hr.mono (by decide)
    suffices hh : ∃ t, PSs (cxOf CX0 P w K mg base NL "law" (defScope s_law) f (.ref c) A outer s H E).nox (defBody s_law) t ∧ t { nx := fun _ H' => Q .non H', rt := Q } (L2.start NL [.ref a]) H by
      obtain ⟨t, h1, h2⟩ := hh
      exact ⟨t, h1.nox, h2⟩
    refine ⟨_, pss_cons (ps_set (i := 1) scLaw.nd rfl (Or.inl rfl) (pe_lst (pa_cons pe_str (pa_cons pe_str (pa_cons pe_str (pa_cons pe_str (pa_cons pe_str (pa_cons (pe_lamF (T := Ts) (N := ["_law_fits", "_law_many"]) (ps := ["_law_fits", "_law_many"]) TBl rfl hmT hu scLam rfl rfl) pa_nil))))))))
    (pss_cons (ps_for PassesOwn.never rfl (pi_range1 (by rfl) B.range (pa_cons (pe_callB (call_max2 rfl) (by rfl) B.max (by decide +kernel) (pa_cons pe_int (pa_cons (pe_callB (call_min2 rfl) (by rfl) B.min (by decide +kernel) (pa_cons pe_int (pa_cons (pe_callB call_len_seq (by rfl) B.len PySem.boot_len (pa_cons (pv 0) pa_nil)) pa_nil))) pa_nil))) pa_nil)) (pg_name (i := 2) scLaw.nd rfl (Or.inl rfl))
      (pss_cons (ps_set (i := 3) scLaw.nd rfl (Or.inl rfl) (pe_call YB.ok hr1 (by rfl) YB.df.at_ YB.df.kp YB.df.bd .nil pass0 (pa_cons (pv 0) (pa_cons (pv 2) pa_nil))))
      (C8.pss_cut (ps_par (i := 4) (j := 5) rfl scLaw.nd rfl rfl (by decide) rfl rfl (pa_cons (pe_op op_add pe_int (pe_call YT.ok hr1 (by rfl) YT.df.at_ YT.df.kp YT.df.bd .nil pass0 (pa_cons (pv 3) (pa_cons pe_int pa_nil)))) (pa_cons (pe_ix ix_list (pv 1) (pe_call YT.ok hr1 (by rfl) YT.df.at_ YT.df.kp YT.df.bd .nil pass0 (pa_cons (pv 3) (pa_cons pe_int pa_nil))) (fun _ _ => rfl)) pa_nil)) (by rfl))
      (C8.pss_cut (ps_par3 (i := 6) (j := 7) (l := 8) rfl scLaw.nd rfl rfl rfl (by decide) (by decide) (by decide) rfl rfl rfl (pa_cons (pe_make MS GS hr2 (by rfl) U.mgS bS .nil pass0 (pa_cons (pv 4) (pa_cons (pv 5) pa_nil))) (pa_cons (pe_make MS GS hr2 (by rfl) U.mgS bS .nil pass0 (pa_cons (pv 4) (pa_cons (pv 5) pa_nil))) (pa_cons (pe_lst pa_nil) pa_nil))) (by rfl))
      (C8.pss_cut (ps_for PassesOwn.never rfl (pi_range1 (by rfl) B.range (pa_cons pe_int pa_nil)) (pg_name (i := 9) scLaw.nd rfl (Or.inl rfl))
        (C8.pss_cut (ps_for PassesOwn.never rfl (pi_range1 (by rfl) B.range (pa_cons pe_int pa_nil)) (pg_name (i := 10) scLaw.nd rfl (Or.inl rfl)) (pss_cons (ps_set (i := 11) scLaw.nd rfl (Or.inl rfl) (pe_op op_add pe_int (pe_call YT.ok hr1 (by rfl) YT.df.at_ YT.df.kp YT.df.bd .nil pass0 (pa_cons (pv 3) (pa_cons (pe_ix ix_list (pe_lst (pa_cons pe_int (pa_cons pe_int pa_nil))) (pe_call YT.ok hr1 (by rfl) YT.df.at_ YT.df.kp YT.df.bd .nil pass0 (pa_cons (pv 3) (pa_cons pe_int pa_nil))) (fun _ _ => rfl)) pa_nil)))))
          (C8.pss_cut (ps_par (i := 12) (j := 13) rfl scLaw.nd rfl rfl (by decide) rfl rfl (pa_cons (pe_call YA.ok hr (by rfl) YA.df.at_ YA.df.kp YA.df.bd .nil pass0 (pa_cons (pv 6) (pa_cons (pv 11) pa_nil))) (pa_cons (pe_call YA.ok hr (by rfl) YA.df.at_ YA.df.kp YA.df.bd .nil pass0 (pa_cons (pv 7) (pa_cons (pv 11) pa_nil))) pa_nil)) (by rfl))
          (C8.pss_cut (ps_if (PW.pt (pw_or (pt_not (pt_cmpR (op_eqN OQ hr2) (pv 12) (pv 13) (nomark _))) (pw_or1 (pt_cmpR (op_neD hr.units) (pe_call YS.ok hr8 (by rfl) YS.df.at_ YS.df.kp YS.df.bd .nil pass0 (pa_cons (pv 6) pa_nil)) (pe_call YS.ok hr8 (by rfl) YS.df.at_ YS.df.kp YS.df.bd .nil pass0 (pa_cons (pv 7) pa_nil)) (nomark _))))) (pss_one (ps_ret pe_bl)) pss_nil)
          (C8.pss_cut (ps_if (pt_cmpR op_notN (pv 12) pe_non (nomark _)) (pss_one (ps_expr (pe_bm PySem.F.plainAttrs_list PySem.F.slot_list_append PySem.F.type_list_append mt_append (pv 8) (pa_cons (pv 12) pa_nil)))) pss_nil)
          (pss_one (ps_if (pt_not (pt_val (pe_call YP.ok hr8 (by rfl) YP.df.at_ YP.df.kp YP.df.bd .nil pass0 (pa_cons (pv 6) (pa_cons (pv 8) (pa_cons (pv 4) pa_nil)))))) (pss_one (ps_ret pe_bl)) pss_nil)))))))
        (C8.pss_cut (ps_set (i := 14) scLaw.nd rfl (Or.inr rfl) (pe_slice sl_list (pe_call YM.ok hr2 (by rfl) YM.df.at_ YM.df.kp YM.df.bd .nil pass0 (pa_cons (pv 3) (pa_cons (pv 8) pa_nil))) (po_some (pe_call YT.ok hr1 (by rfl) YT.df.at_ YT.df.kp YT.df.bd .nil pass0 (pa_cons (pv 3) (pa_cons pe_int pa_nil)))) po_none))
        (C8.pss_cut (ps_for PassesOwn.never rfl (pi_list (pv 14)) (pg_name (i := 12) scLaw.nd rfl (Or.inl rfl)) (pss_one (ps_expr (pe_meth (pv 6) U.cl mGv GGv hr1 bGv .nil pass0 (pa_cons (pv 12) pa_nil)))))
        (C8.pss_cut (ps_for PassesOwn.never rfl (pi_list (pe_call YM.ok hr2 (by rfl) YM.df.at_ YM.df.kp YM.df.bd .nil pass0 (pa_cons (pv 3) (pa_cons (pv 14) pa_nil)))) (pg_name (i := 12) scLaw.nd rfl (Or.inl rfl)) (pss_one (ps_expr (pe_meth (pv 7) U.cl mGv GGv hr1 bGv .nil pass0 (pa_cons (pv 12) pa_nil)))))
        (C8.pss_cut (ps_setLc (i := 8) (own := [("_law_run", 12)]) (g := gName 12) rfl scLaw.nd rfl rfl (sw_true rfl rfl rfl (by decide +kernel)) (pi_list (pv 8)) (blkOk_by (N := NL) (sc := defScope s_law) (by decide +kernel)) (fun _ _ _ _ _ => (pg_name (i := 12) scLaw.nd rfl (Or.inl rfl)))
            (fun _ _ _ _ _ => pts_one (pt_cmpR (r := Io.rInOwn C (spEqA K C) C8.E0 true) (Io.op_inOwn (ng := true) OQ.ok hr2 OQ.nf OQ.at_ OQ.fn OQ.bd pass0) (pv 12) (pv 14) (by rfl))) (fun _ _ _ _ _ => pv 12))
        (pss_one (ps_if (PW.pt (pw_or (pt_cmpR (op_neD hr.units) (pe_call YS.ok hr8 (by rfl) YS.df.at_ YS.df.kp YS.df.bd .nil pass0 (pa_cons (pv 6) pa_nil)) (pe_call YS.ok hr8 (by rfl) YS.df.at_ YS.df.kp YS.df.bd .nil pass0 (pa_cons (pv 7) pa_nil)) (nomark _)) (pw_or1 (pt_not (pt_val (pe_call YP.ok hr8 (by rfl) YP.df.at_ YP.df.kp YP.df.bd .nil pass0 (pa_cons (pv 7) (pa_cons (pv 8) (pa_cons (pv 4) pa_nil))))))))) (pss_one (ps_ret pe_bl)) pss_nil))))))))
      (pss_one (ps_for PassesOwn.never rfl (pi_tup (pe_tup (pa_cons (pv 6) (pa_cons (pv 7) pa_nil)))) (pg_name (i := 15) scLaw.nd rfl (Or.inl rfl))
        (C8.pss_cut (ps_for PassesOwn.never rfl (pi_list (pe_call YM.ok hr2 (by rfl) YM.df.at_ YM.df.kp YM.df.bd .nil pass0 (pa_cons (pv 3) (pa_cons (pv 8) pa_nil)))) (pg_name (i := 12) scLaw.nd rfl (Or.inl rfl)) (pss_one (ps_expr (pe_meth (pv 15) U.cl mGv GGv hr1 bGv .nil pass0 (pa_cons (pv 12) pa_nil)))))
          (C8.pss_cut (ps_if (pt_cmpR (op_neD hr.units) (pe_slice sl_list (pe_call YS.ok hr8 (by rfl) YS.df.at_ YS.df.kp YS.df.bd .nil pass0 (pa_cons (pv 15) pa_nil)) po_none (po_some pe_int)) (pe_lst (pa_cons (pe_lst (pa_cons (pe_tup (pa_cons pe_int (pa_cons (pv 4) pa_nil))) pa_nil)) (pa_cons (pv 4) pa_nil))) (nomark _)) (pss_one (ps_ret pe_bl)) pss_nil)
          (pss_one (ps_if (PW.pt (pw_and (pt_cmpR (op_neP (F := FL) (hu_of hr)) (pv 5) pe_str (nomark _)) (pw_and1 (pt_cmpR op_isN (pe_call YA.ok hr (by rfl) YA.df.at_ YA.df.kp YA.df.bd .nil pass0 (pa_cons (pv 15) (pa_cons (pv 4) pa_nil))) pe_non (nomark _))))) (pss_one (ps_ret pe_bl)) pss_nil)))))))))))
    (pss_one (ps_ret pe_bl))), ?_⟩
    have hT0 : Tabs Ts H := fun p hp => by
      rw [hTs] at hp
      rcases List.mem_cons.mp hp with rfl | hp
      · exact .nil hPB
      rcases List.mem_cons.mp hp with rfl | hp
      · exact .nil hPW
      · rw [List.mem_singleton.mp hp]
        exact .nil hPL
    refine ⟨hT0, fun fl H1 e1 T1 nfl lam => ⟨(by show 6 ≤ sizeLine; decide), fun pl npl => ?_⟩⟩
    have lam1 : LamAt H1 fl FL := lam
    have sP := put_same (o := .lst [.str "first", .str "best", .str "worst", .str "next", .str "halves", .ref fl]) npl
    have e2 : ExtN H (upd H1 pl (.lst [.str "first", .str "best", .str "worst", .str "next", .str "halves", .ref fl])) := e1.trans (ExtN.of sP)
    have T2 := T1.ext sP
    have lam2 := lam_stay lam1 (exts_same sP)
    have ep2 : (upd H1 pl (.lst [.str "first", .str "best", .str "worst", .str "next", .str "halves", .ref fl])) pl = some (.lst [.str "first", .str "best", .str "worst", .str "next", .str "halves", .ref fl]) := upd_same
    clear sP lam
    generalize (upd H1 pl (.lst [.str "first", .str "best", .str "worst", .str "next", .str "halves", .ref fl])) = H2 at e2 T2 lam2 ep2 ⊢
    have hS2 := seqExt hS e2
    refine ⟨_, rfl, a, _, rfl, .inl hS2, _, _, rfl, _, _, rfl, _, rfl, ?_⟩
    have hJ : ∀ n : Int, 0 ≤ n → n ≤ 63 → 2 ≤ (if (if n < 4 then n else 4) > 2 then (if n < 4 then n else 4) else 2) ∧ (if (if n < 4 then n else 4) > 2 then (if n < 4 then n else 4) else 2) ≤ 63 := fun n h0 h1 => by
      by_cases q : n < 4
      · rw [if_pos q]
        by_cases z : n > 2
        · rw [if_pos z]; omega
        · rw [if_neg z]; omega
      · rw [if_neg q]
        decide
    have hJ2 := hJ ((ns.map V.int).length : Int) (by omega) (by rw [List.length_map]; omega)
    generalize (if (if ((ns.map V.int).length : Int) < 4 then ((ns.map V.int).length : Int) else 4) > 2 then (if ((ns.map V.int).length : Int) < 4 then ((ns.map V.int).length : Int) else 4) else 2) = Jn at hJ2 ⊢
    obtain ⟨J0, J1⟩ := hJ2
    refine ⟨by omega, by omega, for_range (lo := 0) (n := Jn.toNat) (fun i σ H' => ∃ (v2 v3 v4 v5 v6 v7 v8 v9 v10 v11 v12 v13 v14 v15 : Option V), σ = [some (.ref a), some (.ref pl), v2, v3, v4, v5, v6, v7, v8, v9, v10, v11, v12, v13, v14, v15] ∧ ExtN H2 H' ∧ Tabs Ts H') ⟨none, none, none, none, none, none, none, none, none, none, none, none, none, none, rfl, ExtN.refl H2, T2⟩ ?_ ?_⟩
    rotate_left
    · rintro σ H' ⟨_, _, _, _, _, _, _, _, _, _, _, _, _, _, rfl, _⟩
      exact k H'
    rintro i σ H2' hi ⟨v2, v3, v4, v5, v6, v7, v8, v9, v10, v11, v12, v13, v14, v15, rfl, s2, T2'⟩
    refine ⟨_, rfl, _, rfl, a, ns, _, rfl, seqExt hS2 s2, hl, by omega, by omega, fun b H3 nb b3 o3 => ?_⟩
    have b0 : NewT H2 b := newT_of s2 nb
    have k23 : Same H2' H3 := fun c u e => (o3 c (ne_of_none e nb)).trans e
    have s3 : ExtN H2 H3 := s2.trans (ExtN.of k23)
    have T3 := T2'.ext k23
    -- pages and policy
    refine ⟨fun σ H' => ∃ (n : Int) (pol : V) (z : Str) (pk : List Pr → Int → Int → Option Int), 1 ≤ n ∧ n ≤ 16 ∧ σ = [some (.ref a), some (.ref pl), some (.int (0 + (i : Int))), some (.ref b), some (.int n), some pol, v6, v7, v8, v9, v10, v11, v12, v13, v14, v15] ∧ ExtN H2 H' ∧ Tabs Ts H' ∧ BagAt H' b 2 ∧ PolA FL ixM H' pol z pk, ?_, ?_⟩
    · refine ⟨_, rfl, b, 16, 0, rfl, by decide, by decide, b3, by decide, fun r H4 r0 r1 b4 o4 => ⟨_, _, rfl, rfl, _, rfl, _, rfl, b, 6, 1, rfl, by decide, by decide, b4, by decide, fun q H5 q0 q1 b5 o5 => ?_⟩⟩
      have s5 : ExtN H2 H5 := fun c u e nt => (o5 c (b0.ne e nt)).trans ((o4 c (b0.ne e nt)).trans (s3 c u e nt))
      have T5 := tabs_offN (tabs_offN T3 b3 (offN_of o4)) b4 (offN_of o5)
      have e5 := s5 _ _ ep2 (fun _ w => by cases w)
      have lam5 := lam_stay lam2 (exts_ext s5)
      have hat : ∃ pol z pk, PolA FL ixM H5 pol z pk ∧ atI [.str "first", .str "best", .str "worst", .str "next", .str "halves", .ref fl] q = some pol := by
        have : q = 0 ∨ q = 1 ∨ q = 2 ∨ q = 3 ∨ q = 4 ∨ q = 5 := by omega
        rcases this with rfl | rfl | rfl | rfl | rfl | rfl
        · exact ⟨_, "first", pkFirst, .inl ⟨rfl, .inl ⟨rfl, rfl⟩⟩, at_of (j := 0) rfl rfl⟩
        · exact ⟨_, "best", pkSz false, .inl ⟨rfl, .inr (.inl ⟨rfl, rfl⟩)⟩, at_of (j := 1) rfl rfl⟩
        · exact ⟨_, "worst", pkSz true, .inl ⟨rfl, .inr (.inr (.inl ⟨rfl, rfl⟩))⟩, at_of (j := 2) rfl rfl⟩
        · exact ⟨_, "next", pkNext, .inl ⟨rfl, .inr (.inr (.inr (.inl ⟨rfl, rfl⟩)))⟩, at_of (j := 3) rfl rfl⟩
        · exact ⟨_, "halves", pkHalves, .inl ⟨rfl, .inr (.inr (.inr (.inr ⟨rfl, rfl⟩)))⟩, at_of (j := 4) rfl rfl⟩
        · exact ⟨_, "fn", pkFn ixM, .inr ⟨fl, rfl, lam5, rfl, rfl⟩, at_of (j := 5) rfl rfl⟩
      obtain ⟨pol, z, pk, hP, hat⟩ := hat
      exact ⟨pl, _, _, _, rfl, rfl, SqL.of e5, hat, _, _, rfl, 1 + r, pol, z, pk, by omega, by omega, rfl, s5, T5, b5, hP⟩
    clear s3 T3 k23 b3
    rintro _ H4 ⟨n, pol, z, pk, n1, n2, rfl, s4, T4, b4, hP⟩
    have n0 : 0 ≤ n := by omega
    have hpol : (∃ z, pol = .str z ∧ isPol z = true) ∨ ∃ f, pol = .ref f ∧ LamAt H4 f FL := by
      rcases hP with ⟨rfl, h5⟩ | ⟨f, rfl, h, _⟩
      · refine .inl ⟨z, rfl, ?_⟩
        rcases h5 with ⟨rfl, _⟩ | ⟨rfl, _⟩ | ⟨rfl, _⟩ | ⟨rfl, _⟩ | ⟨rfl, _⟩ <;> decide +kernel
      · exact .inr ⟨f, rfl, h⟩
    -- the spaces
    refine ⟨fun σ H' => ∃ (sp1 d1 sp2 d2 gv : Addr), σ = [some (.ref a), some (.ref pl), some (.int (0 + (i : Int))), some (.ref b), some (.int n), some pol, some (.ref sp1), some (.ref sp2), some (.ref gv), v9, v10, v11, v12, v13, v14, v15] ∧ J C S Ts FL ixM H2 H' b sp1 d1 sp2 d2 n pol z pk 0 [] 0 [] 2 ∧ Giv C H' gv [] [] ∧ NewT H2 gv ∧ b ≠ gv, ?_, ?_⟩
    · have newsp : ∀ {H : Hp} {sp dx : Addr}, H sp = none → H dx = none → Same H (upd (upd H dx (.own sp)) sp (.ins S dx [])) := fun h1 h2 c o e => by
        rw [upd_ne (ne_of_none e h1), upd_ne (ne_of_none e h2)]
        exact e
      refine ⟨_, rfl, _, rfl, fun sp1 dx1 nsp1 ndx1 ne1 => ?_⟩
      have k1 := newsp nsp1 ndx1
      refine ⟨sp1, dx1, n, pol, rfl, upd_same, hpol.imp id fun ⟨f, e, l⟩ => ⟨f, e, lam_stay l (exts_same k1)⟩, fun H5 d1 e5 nd1 ndsp1 d5 sp5 => ⟨rfl, ?_⟩⟩
      have s45 : Same H4 H5 := fun c o e => e5 c o (fun z => by rw [z, nsp1] at e; cases e) (k1 _ _ e)
      refine ⟨_, rfl, _, rfl, fun sp2 dx2 nsp2 ndx2 ne2 => ?_⟩
      have k2 := newsp nsp2 ndx2
      refine ⟨sp2, dx2, n, pol, rfl, upd_same, hpol.imp id fun ⟨f, e, l⟩ => ⟨f, e, lam_stay l (exts_same (s45.trans k2))⟩, fun H6 d2 e6 nd2 ndsp2 d6 sp6 => ⟨rfl, Nat.zero_le _, fun gv ngv => ?_⟩⟩
      have s56 : Same H5 H6 := fun c o e => e6 c o (fun z => by rw [z, nsp2] at e; cases e) (k2 _ _ e)
      have sG := put_same (o := .lst []) ngv
      have nd1' : H4 d1 = none := k1.free nd1
      have nd2' : H5 d2 = none := k2.free nd2
      have nsp12 : sp1 ≠ sp2 := fun w => by
        obtain ⟨_, _, y, _⟩ := sp5
        rw [w, nsp2] at y
        cases y
      have nd12 : d1 ≠ d2 := fun w => by rw [w, nd2'] at d5; cases d5
      have sAll := (s45.trans s56).trans sG
      have bgv : b ≠ gv := (b4.sameN (s45.trans s56)).ne ngv
      refine ⟨_, _, _, rfl, sp1, d1, sp2, d2, gv, rfl, ?_, ⟨upd_same, .nil⟩, newT_of s4 ((s45.trans s56).free ngv), bgv⟩
      exact { s0 := s4.trans (ExtN.of sAll), nb := b0, n1 := newT_of s4 nsp1, n2 := newT_of s4 nd1', n3 := newT_of s4 (s45.free nsp2), n4 := newT_of s4 (s45.free nd2'), ns := nsp12, nd := nd12, bag := b4.sameN sAll, tab := T4.ext sAll,
              pol_ := hP.stay (exts_same sAll), one := ⟨(sp5.same s56).same sG, sG _ _ (s56 _ _ d5)⟩, two := ⟨sp6.same sG, sG _ _ d6⟩ }
    clear hpol hP b4 T4 s4
    rintro _ H5 ⟨sp1, d1, sp2, d2, gv0, rfl, j0, g0, ng0, bg0⟩
    -- the turns
    refine ⟨fun σ H' => ∃ (gv : Addr) (gs : List Addr) (ps : List Pr) (mk : Int) (ts1 ts2 : List Pr) (N : Nat) (v9 v10 v11 v12 v13 v14 v15 : Option V), σ = [some (.ref a), some (.ref pl), some (.int (0 + (i : Int))), some (.ref b), some (.int n), some pol, some (.ref sp1), some (.ref sp2), some (.ref gv), v9, v10, v11, v12, v13, v14, v15] ∧
        J C S Ts FL ixM H2 H' b sp1 d1 sp2 d2 n pol z pk mk ts1 mk ts2 N ∧ Giv C H' gv gs ps ∧ NewT H2 gv ∧ b ≠ gv ∧ Sm.Tk n ts1 ∧ ts2.Perm ts1 ∧ ps.Perm ts1 ∧ ts1.length ≤ 18 ∧ 0 ≤ mk ∧ mk ≤ n ∧ N ≤ 2000, ?_, ?_⟩
    · refine ⟨3, rfl, by decide, by decide, for_range (lo := 0) (n := 3) (fun t σ H' => ∃ (gv : Addr) (gs : List Addr) (ps : List Pr) (mk : Int) (ts1 ts2 : List Pr) (N : Nat) (v9 v10 v11 v12 v13 v14 v15 : Option V), σ = [some (.ref a), some (.ref pl), some (.int (0 + (i : Int))), some (.ref b), some (.int n), some pol, some (.ref sp1), some (.ref sp2), some (.ref gv), v9, v10, v11, v12, v13, v14, v15] ∧
        J C S Ts FL ixM H2 H' b sp1 d1 sp2 d2 n pol z pk mk ts1 mk ts2 N ∧ Giv C H' gv gs ps ∧ NewT H2 gv ∧ b ≠ gv ∧ Sm.Tk n ts1 ∧ ts2.Perm ts1 ∧ ps.Perm ts1 ∧ ts1.length ≤ 6 * t ∧ 0 ≤ mk ∧ mk ≤ n ∧ N ≤ 2 + 400 * t) ⟨gv0, [], [], 0, [], [], 2, v9, v10, v11, v12, v13, v14, v15, rfl, j0, g0, ng0, bg0, Sm.Tk.nil, List.Perm.refl _, List.Perm.refl _, Nat.zero_le _, Int.le_refl _, n0, Nat.le_refl _⟩ ?_ ?_⟩
      rotate_left
      · rintro σ H' ⟨gv, gs, ps, mk, ts1, ts2, N, v9, v10, v11, v12, v13, v14, v15, rfl, j, g, ng, bg, tk, p2, pp, len, k0, k1, hN⟩
        exact ⟨gv, gs, ps, mk, ts1, ts2, N, _, _, _, _, _, _, _, rfl, j, g, ng, bg, tk, p2, pp, len, k0, k1, by omega⟩
      clear j0 g0 ng0 bg0
      rintro t σ H6 ht ⟨gv, gs, ps, mk, ts1, ts2, N, v9, v10, v11, v12, v13, v14, v15, rfl, j, g, ng, bg, tk, p2, pp, len, k0, k1, hN⟩
      -- the requests
      refine ⟨fun σ H' => ∃ (gs : List Addr) (ps : List Pr) (mk : Int) (ts1 ts2 : List Pr) (N : Nat) (v10 v11 v12 v13 v14 v15 : Option V), σ = [some (.ref a), some (.ref pl), some (.int (0 + (i : Int))), some (.ref b), some (.int n), some pol, some (.ref sp1), some (.ref sp2), some (.ref gv), some (.int (0 + (t : Int))), v10, v11, v12, v13, v14, v15] ∧
        J C S Ts FL ixM H2 H' b sp1 d1 sp2 d2 n pol z pk mk ts1 mk ts2 N ∧ Giv C H' gv gs ps ∧ Sm.Tk n ts1 ∧ ts2.Perm ts1 ∧ ps.Perm ts1 ∧ ts1.length ≤ 6 * (t + 1) ∧ 0 ≤ mk ∧ mk ≤ n ∧ N ≤ 2 + 400 * t + 18, ?_, ?_⟩
      · refine ⟨6, rfl, by decide, by decide, for_range (lo := 0) (n := 6) (fun u σ H' => ∃ (gs : List Addr) (ps : List Pr) (mk : Int) (ts1 ts2 : List Pr) (N : Nat) (v10 v11 v12 v13 v14 v15 : Option V), σ = [some (.ref a), some (.ref pl), some (.int (0 + (i : Int))), some (.ref b), some (.int n), some pol, some (.ref sp1), some (.ref sp2), some (.ref gv), some (.int (0 + (t : Int))), v10, v11, v12, v13, v14, v15] ∧
          J C S Ts FL ixM H2 H' b sp1 d1 sp2 d2 n pol z pk mk ts1 mk ts2 N ∧ Giv C H' gv gs ps ∧ Sm.Tk n ts1 ∧ ts2.Perm ts1 ∧ ps.Perm ts1 ∧ ts1.length ≤ 6 * t + u ∧ 0 ≤ mk ∧ mk ≤ n ∧ N ≤ 2 + 400 * t + 3 * u) ⟨gs, ps, mk, ts1, ts2, N, _, _, _, _, _, _, rfl, j, g, tk, p2, pp, by omega, k0, k1, by omega⟩ ?_ ?_⟩
        rotate_left
        · rintro σ H' ⟨gs, ps, mk, ts1, ts2, N, v10, v11, v12, v13, v14, v15, rfl, j, g, tk, p2, pp, len, k0, k1, hN⟩
          exact ⟨gs, ps, mk, ts1, ts2, N, _, _, _, _, _, _, rfl, j, g, tk, p2, pp, by omega, k0, k1, by omega⟩
        clear j g tk p2 pp len k0 k1 hN
        rintro u σ H7 hu7 ⟨gs, ps, mk, ts1, ts2, N, v10, v11, v12, v13, v14, v15, rfl, j, g, tk, p2, pp, len, k0, k1, hN⟩
        have tl : ts1.length < 64 := by omega
        have tk2 : Sm.Tk n ts2 := tk.perm p2
        -- how many
        refine ⟨_, rfl, (by show 2 ≤ sizeLine; decide), fun l nl => ?_⟩
        have jA := j.same (put_same (o := .lst [.int 2, .int 5]) nl)
        have gA := g.same (put_same (o := .lst [.int 2, .int 5]) nl)
        have bl : b ≠ l := j.bag.ne nl
        refine ⟨_, rfl, b, 2, N, rfl, by decide, by decide, jA.bag, by omega, fun q H8 q0 q1 b8 o8 => ?_⟩
        have jB := jA.draw b8 (offN_of o8)
        obtain ⟨xb, ebg⟩ := jA.bag.lst
        have gB := gA.off ebg (Ne.symm bg) (offN_of o8)
        have el : H8 l = some (.lst [.int 2, .int 5]) := (o8 l (Ne.symm bl)).trans upd_same
        have hat : ∃ x, 1 ≤ x ∧ x ≤ 5 ∧ atI [V.int 2, .int 5] q = some (.int x) := by
          have : q = 0 ∨ q = 1 := by omega
          rcases this with rfl | rfl
          · exact ⟨2, by omega, by omega, at_of (j := 0) rfl rfl⟩
          · exact ⟨5, by omega, by omega, at_of (j := 1) rfl rfl⟩
        obtain ⟨x, x0, x1, hat⟩ := hat
        refine ⟨l, _, _, _, rfl, rfl, SqL.of el, hat, b, x, N + 1, rfl, x0, by omega, jB.bag, by omega, fun r H9 r0 r1 b9 o9 => ⟨_, _, rfl, rfl, ?_⟩⟩
        have jC := jB.draw b9 (offN_of o9)
        obtain ⟨xb2, ebg2⟩ := jB.bag.lst
        have gC := gB.off ebg2 (Ne.symm bg) (offN_of o9)
        have m1 : 1 ≤ 1 + r := by omega
        have m2 : 1 + r ≤ 5 := by omega
        dsimp only
        generalize 1 + r = m at m1 m2 ⊢
        clear jA gA jB gB o8 o9 b8 b9 el hat
        -- both are asked
        refine ⟨fun σ H' => ∃ (v w : V) (ts1' ts2' : List Pr) (mk' : Int), σ = [some (.ref a), some (.ref pl), some (.int (0 + (i : Int))), some (.ref b), some (.int n), some pol, some (.ref sp1), some (.ref sp2), some (.ref gv), some (.int (0 + (t : Int))), some (.int (0 + (u : Int))), some (.int m), some v, some w, v14, v15] ∧
          J C S Ts FL ixM H2 H' b sp1 d1 sp2 d2 n pol z pk mk' ts1' mk' ts2' (N + 2) ∧ Giv C H' gv gs ps ∧ ((v = .non ∧ w = .non ∧ ts1' = ts1 ∧ ts2' = ts2 ∧ mk' = mk) ∨ ∃ (r1 r2 : Addr) (c s : Int), v = .ref r1 ∧ w = .ref r2 ∧ RunAt C H' r1 c s ∧ RunAt C H' r2 c s ∧ ts1' = ts1 ++ [(c, s)] ∧ ts2' = ts2 ++ [(c, s)] ∧ Sm.Tk n (ts1 ++ [(c, s)]) ∧ 0 ≤ mk' ∧ mk' ≤ n), ?_, ?_⟩
        · refine ⟨_, rfl, _, rfl, sp1, d1, n, mk, m, pol, z, pk, ts1, rfl, jC.one.at_, jC.pol_, jC.one.dct, tk, tl, n1, by omega, m1, by omega, fun _ => by omega, k0, by omega, jC.tab, fun L s hL hs s1 s2' => ⟨fun c hc HA rA eA TA nA rrA dA sA => ?_, fun hn HA eA TA => ?_⟩⟩
          · have jD := jC.put eA TA ⟨sA, dA⟩
            have gD := gC.put jC.one eA
            obtain ⟨c0, c1, c2, tk'⟩ := fit_free jC.pol_.fit tk hL (by omega) s1 k0 hc
            refine ⟨_, rfl, _, rfl, sp2, d2, n, mk, m, pol, z, pk, ts2, rfl, jD.two.at_, jD.pol_, jD.two.dct, tk2, by rw [p2.length_eq]; exact tl, n1, by omega, m1, by omega, fun _ => by omega, k0, by omega, jD.tab, fun L2 s' hL2 hs' s1' s2'' => ?_⟩
            have eL : L2 = L := Sm.HL.uniq (Sm.hl_perm p2.symm hL2) hL
            have es : s' = s := szOk_uniq hs' hs
            subst eL es
            refine ⟨fun c' hc' HB rB eB TB nB rrB dB sB => ?_, fun hn => by rw [hc] at hn; cases hn⟩
            rw [hc] at hc'
            cases hc'
            have jE := (jD.swap.put eB TB ⟨sB, dB⟩).swap
            have gE := gD.put jD.two eB
            have rrA' := run_put rrA jD.two eB
            refine ⟨_, _, rfl, .ref rA, .ref rB, _, _, _, rfl, jE, gE, .inr ⟨rA, rB, c, s', rfl, rfl, rrA', rrB, rfl, rfl, tk', ?_, ?_⟩⟩
            · split <;> omega
            · split <;> omega
          · have jD := jC.ext eA TA
            have gD := gC.extN eA
            refine ⟨_, rfl, _, rfl, sp2, d2, n, mk, m, pol, z, pk, ts2, rfl, jD.two.at_, jD.pol_, jD.two.dct, tk2, by rw [p2.length_eq]; exact tl, n1, by omega, m1, by omega, fun _ => by omega, k0, by omega, jD.tab, fun L2 s' hL2 hs' s1' s2'' => ?_⟩
            have eL : L2 = L := Sm.HL.uniq (Sm.hl_perm p2.symm hL2) hL
            have es : s' = s := szOk_uniq hs' hs
            subst eL es
            refine ⟨fun c' hc' => (by rw [hn] at hc'; cases hc'), fun _ HB eB TB => ?_⟩
            exact ⟨_, _, rfl, .non, .non, ts1, ts2, mk, rfl, jD.ext eB TB, gD.extN eB, .inl ⟨rfl, rfl, rfl, rfl, rfl⟩⟩
        clear jC gC
        rintro _ HA ⟨v, w, ts1', ts2', mk', rfl, jD, gD, alike⟩
        -- they are alike
        refine ⟨fun σ H' => ∃ (v w : V) (ts1' ts2' : List Pr) (mk' : Int), σ = [some (.ref a), some (.ref pl), some (.int (0 + (i : Int))), some (.ref b), some (.int n), some pol, some (.ref sp1), some (.ref sp2), some (.ref gv), some (.int (0 + (t : Int))), some (.int (0 + (u : Int))), some (.int m), some v, some w, v14, v15] ∧
          J C S Ts FL ixM H2 H' b sp1 d1 sp2 d2 n pol z pk mk' ts1' mk' ts2' (N + 2) ∧ Giv C H' gv gs ps ∧ ((v = .non ∧ w = .non ∧ ts1' = ts1 ∧ ts2' = ts2 ∧ mk' = mk) ∨ ∃ (r1 r2 : Addr) (c s : Int), v = .ref r1 ∧ w = .ref r2 ∧ RunAt C H' r1 c s ∧ RunAt C H' r2 c s ∧ ts1' = ts1 ++ [(c, s)] ∧ ts2' = ts2 ++ [(c, s)] ∧ Sm.Tk n (ts1 ++ [(c, s)]) ∧ 0 ≤ mk' ∧ mk' ≤ n), ?_, ?_⟩
        · have eqv : ∀ Qx : VK, Qx (.bl true) HA → rEqN K C v w HA Qx := fun Qx q => by
            rcases alike with ⟨rfl, rfl, _⟩ | ⟨r1, r2, c0, s, rfl, rfl, rr1, rr2, _⟩
            · exact .inl ⟨rfl, rfl, q⟩
            · obtain ⟨dx1, er1⟩ := id rr1
              obtain ⟨dx2, er2⟩ := id rr2
              exact .inr ⟨r1, dx1, _, .ref C, rfl, er1, .base (.ins er2 T.cl Z.ha Z.hn Z.htk Z.hm), OQ.nf, r1, c0, s, .ref r2, rfl, rr1, .inl ⟨r2, c0, s, rfl, rr2, _, rfl, by rw [decide_eq_true ⟨rfl, rfl⟩]; exact q⟩⟩
          have facts : Sm.Tk n ts1' ∧ ts2'.Perm ts1' ∧ ts1'.length ≤ ts1.length + 1 := by
            rcases alike with ⟨_, _, rfl, rfl, _⟩ | ⟨r1, r2, c0, s, _, _, _, _, rfl, rfl, tk', _⟩
            · exact ⟨tk, p2, Nat.le_succ _⟩
            · exact ⟨tk', p2.append_right _, by rw [List.length_append]; exact Nat.le_refl _⟩
          obtain ⟨tk1, pm1, ln1⟩ := facts
          refine ⟨_, rfl, _, rfl, eqv _ ⟨_, rfl, iteF ?_⟩⟩
          refine ⟨_, rfl, sp1, d1, n, mk', pol, ts1', rfl, jD.one.at_, jD.one.dct, tk1, by omega, n1, by omega, fun L HB l hL sB seB => ?_⟩
          have jE := jD.same sB
          refine ⟨_, rfl, sp2, d2, n, mk', pol, ts2', rfl, jE.two.at_, jE.two.dct, tk1.perm pm1, by rw [pm1.length_eq]; omega, n1, by omega, fun L2 HC l2 hL2 sC seC => ?_⟩
          have eL : L2 = L := Sm.HL.uniq (Sm.hl_perm pm1.symm hL2) hL
          subst eL
          rw [Sm.sum_perm pm1] at seC
          refine ⟨_, _, (seB.same sC).dp, seC.dp, shaped_seen _ _ _, shaped_seen _ _ _, _, rfl, ?_⟩
          rw [eqv_self (shaped_seen _ _ _)]
          refine iteF ?_
          have k' : Same HA HC := sB.trans sC
          refine ⟨v, w, ts1', ts2', mk', rfl, jD.same k', gD.same k', alike.imp id ?_⟩
          rintro ⟨r1, r2, c0, s, e1, e2, rr1, rr2, q⟩
          exact ⟨r1, r2, c0, s, e1, e2, RunAt.same rr1 k', RunAt.same rr2 k', q⟩
        clear jD gD alike
        rintro _ HA ⟨v, w, ts1', ts2', mk', rfl, jD, gD, alike⟩
        -- the run is kept
        refine ⟨fun σ H' => ∃ (gs' : List Addr) (ps' : List Pr), σ = [some (.ref a), some (.ref pl), some (.int (0 + (i : Int))), some (.ref b), some (.int n), some pol, some (.ref sp1), some (.ref sp2), some (.ref gv), some (.int (0 + (t : Int))), some (.int (0 + (u : Int))), some (.int m), some v, some w, v14, v15] ∧
            J C S Ts FL ixM H2 H' b sp1 d1 sp2 d2 n pol z pk mk' ts1' mk' ts2' (N + 2) ∧ Giv C H' gv gs' ps' ∧ Sm.Tk n ts1' ∧ ts2'.Perm ts1' ∧ ps'.Perm ts1' ∧ ts1'.length ≤ 6 * t + (u + 1) ∧ 0 ≤ mk' ∧ mk' ≤ n, ?_, ?_⟩
        · rcases alike with ⟨rfl, rfl, rfl, rfl, rfl⟩ | ⟨r1, r2, c0, s, rfl, rfl, rr1, rr2, rfl, rfl, tk', k0', k1'⟩
          · refine ⟨_, rfl, rfl, _, rfl, iteF ?_⟩
            exact ⟨gs, ps, rfl, jD, gD, tk, p2, pp, by omega, k0, k1⟩
          · refine ⟨_, rfl, rfl, _, rfl, iteT ?_⟩
            refine ⟨_, rfl, .inl ⟨rfl, _, SqL.of gD.at_⟩, _, rfl, gv, _, _, rfl, rfl, gD.at_, ?_, ?_⟩
            · rw [List.length_map, paired_len gD.run, pp.length_eq]
              exact Nat.lt_of_lt_of_le tl (by decide)
            exact ⟨gs ++ [r1], ps ++ [(c0, s)], rfl, jD.upd ng gD.at_ bg, gD.add rr1, tk', p2.append_right _, pp.append_right _, by rw [List.length_append]; show _ + 1 ≤ _; omega, k0', k1'⟩
        clear jD gD alike
        rintro _ HA ⟨gs', ps', rfl, jD, gD, tk', p2', pp', len', k0', k1'⟩
        refine ⟨_, rfl, _, rfl, _, rfl, sp1, d1, gv, n, mk', pol, ts1', gs', ps', rfl, jD.one.at_, jD.one.dct, tk', by omega, n1, by omega, gD.at_, gD.run, pp', fun HB sB => ⟨true, rfl, iteF ?_⟩⟩
        exact ⟨gs', ps', mk', ts1', ts2', N + 2, _, _, _, _, _, _, rfl, jD.same sB, gD.same sB, tk', p2', pp', len', k0', k1', by omega⟩
      clear j g tk p2 pp len k0 k1 hN
      rintro _ H7 ⟨gs, ps, mk, ts1, ts2, N, v10, v11, v12, v13, v14, v15, rfl, j, g, tk, p2, pp, len, k0, k1, hN⟩
      -- what goes back
      refine ⟨fun σ H' => ∃ (gn : Addr) (hs : List Addr) (A G : List Pr) (N : Nat), σ = [some (.ref a), some (.ref pl), some (.int (0 + (i : Int))), some (.ref b), some (.int n), some pol, some (.ref sp1), some (.ref sp2), some (.ref gv), some (.int (0 + (t : Int))), v10, v11, v12, v13, some (.ref gn), v15] ∧
          J C S Ts FL ixM H2 H' b sp1 d1 sp2 d2 n pol z pk mk ts1 mk ts2 N ∧ Giv C H' gv gs ps ∧ Giv C H' gn hs G ∧ b ≠ gn ∧ ps.Perm (A ++ G) ∧ N ≤ 2 + 400 * t + 18 + 70, ?_, ?_⟩
      · have glen := paired_len g.run
        refine ⟨_, rfl, _, rfl, b, gv, _, N, rfl, g.at_, by rw [List.length_map, glen, pp.length_eq]; omega, j.bag, by omega, fun H8 p ys pm off b8 np bp ep => ?_⟩
        have jA := j.draw b8 off
        obtain ⟨xb, ebg⟩ := j.bag.lst
        have gA := g.off ebg (Ne.symm bg) off
        obtain ⟨hs, rfl, hp⟩ := refs_perm pm
        obtain ⟨qs, hq, qp⟩ := paired_perm hp gA.run
        refine ⟨_, rfl, b, 4, N + 64, rfl, by decide, by decide, b8, by omega, fun r H9 r0 r1 b9 o9 => ?_⟩
        have jB := jA.draw b9 (offN_of o9)
        obtain ⟨xb2, ebg2⟩ := jA.bag.lst
        have gB := gA.off ebg2 (Ne.symm bg) (offN_of o9)
        have mB : Giv C H9 p hs qs := Giv.off ⟨ep, hq⟩ ebg2 (Ne.symm bp) (offN_of o9)
        refine ⟨_, rfl, p, _, rfl, SqL.of mB.at_, fun gn ngn => ?_⟩
        rw [cut_drop r0, ← List.map_drop]
        have sA := put_same (o := .lst ((hs.drop r.toNat).map V.ref)) ngn
        exact ⟨gn, hs.drop r.toNat, qs.take r.toNat, qs.drop r.toNat, N + 64 + 1, rfl, jB.same sA, gB.same sA, ⟨upd_same, RunsAt.same (paired_drop _ mB.run) sA⟩, jB.bag.ne ngn, by rw [List.take_append_drop]; exact qp.symm, by omega⟩
      clear j g hN
      rintro _ H8 ⟨gn, hs, A, G, N, rfl, j, g, gg, bgn, pAG, hN⟩
      have hsG := paired_len gg.run
      -- the one space gets them back
      refine ⟨fun σ H' => ∃ (ts1' : List Pr) (v12 : Option V), σ = [some (.ref a), some (.ref pl), some (.int (0 + (i : Int))), some (.ref b), some (.int n), some pol, some (.ref sp1), some (.ref sp2), some (.ref gv), some (.int (0 + (t : Int))), v10, v11, v12, v13, some (.ref gn), v15] ∧
          J C S Ts FL ixM H2 H' b sp1 d1 sp2 d2 n pol z pk mk ts1' mk ts2 N ∧ Giv C H' gv gs ps ∧ Giv C H' gn hs G ∧ Sm.Tk n ts1' ∧ ts1'.Perm A, ?_, ?_⟩
      · refine ⟨_, rfl, gn, rfl, ⟨_, SqL.of gg.at_⟩, for_list (K := K) (a := gn) (xs := hs.map V.ref) (fun i' σ H' => ∃ (ts1' : List Pr) (v12 : Option V), σ = [some (.ref a), some (.ref pl), some (.int (0 + (i : Int))), some (.ref b), some (.int n), some pol, some (.ref sp1), some (.ref sp2), some (.ref gv), some (.int (0 + (t : Int))), v10, v11, v12, v13, some (.ref gn), v15] ∧
          J C S Ts FL ixM H2 H' b sp1 d1 sp2 d2 n pol z pk mk ts1' mk ts2 N ∧ Giv C H' gv gs ps ∧ Giv C H' gn hs G ∧ Sm.Tk n ts1' ∧ ts1'.Perm (A ++ G.drop i')) ⟨ts1, v12, rfl, j, g, gg, tk, pp.symm.trans pAG⟩ (fun i' σ H' _ ⟨_, _, _, _, _, q, _⟩ => SqL.of q.at_) ?_ ?_⟩
        · rintro i' x σ H' hx ⟨ts1', v12, rfl, j', g', gg', tk', pm'⟩
          rw [List.getElem?_map] at hx
          obtain ⟨gr, hgr, rfl⟩ := Option.map_eq_some_iff.mp hx
          have il : i' < G.length := by rw [← hsG]; exact (List.getElem?_eq_some_iff.mp hgr).1
          have hGi : G[i']? = some G[i'] := List.getElem?_eq_getElem il
          have rr := paired_ith gg'.run hgr hGi
          rw [List.drop_eq_getElem_cons il] at pm'
          generalize G[i'] = y at pm' rr
          have hy : y ∈ ts1' := pm'.mem_iff.mpr (List.mem_append.mpr (.inr (List.mem_cons_self ..)))
          obtain ⟨dx3, fs3, ha3, _, _, _, _, _, pf3⟩ := id j'.one.at_
          refine ⟨_, rfl, sp1, dx3, _, rfl, ha3, pf3 "give_back" (by decide +kernel) (by decide +kernel) (by decide +kernel) (by decide +kernel), _, rfl, sp1, gr, d1, n, n, mk, y.1, y.2, _, ts1', rfl, j'.one.at_, j'.one.dct, rr, tk', hy, fun H4 e4 d4 s4 => ?_⟩
          have kp : putT sp1 d1 H' H4 := fun q o _ q2 _ w => e4 q o q2 w
          exact ⟨Sm.del ts1' y.1, _, rfl, j'.give e4 d4 s4, g'.put j'.one kp, gg'.put j'.one kp, tk'.del _, Sm.perm_del tk' pm'⟩
        · rintro σ H' ⟨ts1', v12, rfl, j', g', gg', tk', pm'⟩
          rw [List.length_map, hsG, List.drop_length, List.append_nil] at pm'
          exact ⟨ts1', _, rfl, j', g', gg', tk', pm'⟩
      clear j gg
      have pAt : ts1.Perm (A ++ G) := pp.symm.trans pAG
      have tkp : Sm.Tk n ps := tk.perm pp
      have tk2 : Sm.Tk n ts2 := tk.perm p2
      have p2A : ts2.Perm (A ++ G) := p2.trans pAt
      have Al : A.length + G.length = ts1.length := by rw [← List.length_append]; exact pAt.length_eq.symm
      clear g
      rintro _ H9 ⟨ts1', v12, rfl, j, g, gg, tk1, pA1⟩
      -- the other one, in another order
      refine ⟨fun σ H' => ∃ (ts2' : List Pr) (v12 : Option V) (N : Nat), σ = [some (.ref a), some (.ref pl), some (.int (0 + (i : Int))), some (.ref b), some (.int n), some pol, some (.ref sp1), some (.ref sp2), some (.ref gv), some (.int (0 + (t : Int))), v10, v11, v12, v13, some (.ref gn), v15] ∧
          J C S Ts FL ixM H2 H' b sp1 d1 sp2 d2 n pol z pk mk ts1' mk ts2' N ∧ Giv C H' gv gs ps ∧ Giv C H' gn hs G ∧ Sm.Tk n ts2' ∧ ts2'.Perm A ∧ N ≤ 2 + 400 * t + 18 + 140, ?_, ?_⟩
      · refine ⟨_, rfl, _, rfl, b, gn, _, N, rfl, gg.at_, by rw [List.length_map, hsG]; omega, j.bag, by omega, fun HA p ys pm off b8 np bp ep => ?_⟩
        have jA := j.draw b8 off
        obtain ⟨xb, ebg⟩ := j.bag.lst
        have gA := g.off ebg (Ne.symm bg) off
        have ggA := gg.off ebg (Ne.symm bgn) off
        obtain ⟨ms, rfl, hp⟩ := refs_perm pm
        obtain ⟨M, hM, qM⟩ := paired_perm hp ggA.run
        have msM := paired_len hM
        have p2M : ts2.Perm (A ++ M) := p2A.trans (qM.symm.append_left A)
        refine ⟨p, rfl, ⟨_, SqL.of ep⟩, for_list (K := K) (a := p) (xs := ms.map V.ref) (fun i' σ H' => ∃ (ts2' : List Pr) (v12 : Option V), σ = [some (.ref a), some (.ref pl), some (.int (0 + (i : Int))), some (.ref b), some (.int n), some pol, some (.ref sp1), some (.ref sp2), some (.ref gv), some (.int (0 + (t : Int))), v10, v11, v12, v13, some (.ref gn), v15] ∧
          J C S Ts FL ixM H2 H' b sp1 d1 sp2 d2 n pol z pk mk ts1' mk ts2' (N + 64) ∧ Giv C H' gv gs ps ∧ Giv C H' gn hs G ∧ Giv C H' p ms M ∧ Sm.Tk n ts2' ∧ ts2'.Perm (A ++ M.drop i')) ⟨ts2, v12, rfl, jA, gA, ggA, ⟨ep, hM⟩, tk2, p2M⟩ (fun i' σ H' _ ⟨_, _, _, _, _, _, q, _⟩ => SqL.of q.at_) ?_ ?_⟩
        · rintro i' x σ H' hx ⟨ts2', v12, rfl, j', g', gg', gm', tk', pm'⟩
          rw [List.getElem?_map] at hx
          obtain ⟨gr, hgr, rfl⟩ := Option.map_eq_some_iff.mp hx
          have il : i' < M.length := by rw [← msM]; exact (List.getElem?_eq_some_iff.mp hgr).1
          have hGi : M[i']? = some M[i'] := List.getElem?_eq_getElem il
          have rr := paired_ith gm'.run hgr hGi
          rw [List.drop_eq_getElem_cons il] at pm'
          generalize M[i'] = y at pm' rr
          have hy : y ∈ ts2' := pm'.mem_iff.mpr (List.mem_append.mpr (.inr (List.mem_cons_self ..)))
          obtain ⟨dx3, fs3, ha3, _, _, _, _, _, pf3⟩ := id j'.two.at_
          refine ⟨_, rfl, sp2, dx3, _, rfl, ha3, pf3 "give_back" (by decide +kernel) (by decide +kernel) (by decide +kernel) (by decide +kernel), _, rfl, sp2, gr, d2, n, n, mk, y.1, y.2, _, ts2', rfl, j'.two.at_, j'.two.dct, rr, tk', hy, fun H4 e4 d4 s4 => ?_⟩
          have kp : putT sp2 d2 H' H4 := fun q o _ q2 _ w => e4 q o q2 w
          exact ⟨Sm.del ts2' y.1, _, rfl, (j'.swap.give e4 d4 s4).swap, g'.put j'.two kp, gg'.put j'.two kp, gm'.put j'.two kp, tk'.del _, Sm.perm_del tk' pm'⟩
        · rintro σ H' ⟨ts2', v12, rfl, j', g', gg', gm', tk', pm'⟩
          rw [List.length_map, msM, List.drop_length, List.append_nil] at pm'
          exact ⟨ts2', _, N + 64, rfl, j', g', gg', tk', pm', by omega⟩
      clear j g gg hN
      rintro _ HB ⟨ts2', v12, N, rfl, j, g, gg, tk2', pA2, hN⟩
      -- what is kept
      have plen := paired_len g.run
      have left : ∀ (us : List Pr), us = us := fun _ => rfl
      refine ⟨fun σ H' => ∃ (D : Addr) (bs : List Addr), σ = [some (.ref a), some (.ref pl), some (.int (0 + (i : Int))), some (.ref b), some (.int n), some pol, some (.ref sp1), some (.ref sp2), some (.ref D), some (.int (0 + (t : Int))), v10, v11, v12, v13, some (.ref gn), v15] ∧
          J C S Ts FL ixM H2 H' b sp1 d1 sp2 d2 n pol z pk mk ts1' mk ts2' N ∧ Giv C H' D bs (ps.filter fun x => !(G.any fun y => decide (y.1 = x.1 ∧ y.2 = x.2))) ∧ NewT H2 D ∧ b ≠ D, ?_, ?_⟩
      · refine ⟨_, rfl, gv, rfl, ⟨_, SqL.of g.at_⟩, fun D nD => lc_list (K := K) (a := gv) (xs := gs.map V.ref) (fun i' H' => ∃ bs : List Addr, Same HB H' ∧ H' D = some (.lst (bs.map V.ref)) ∧ RunsAt C HB bs ((ps.take i').filter fun x => !(G.any fun y => decide (y.1 = x.1 ∧ y.2 = x.2))) ∧ bs.length ≤ i') ⟨[], put_same nD, upd_same, .nil, Nat.le_refl _⟩ (fun i' H' _ ⟨_, q, _⟩ => SqL.of (q _ _ g.at_)) ?_ ?_⟩
        · rintro i' x H' hx ⟨bs, q1, q2, q3, q4⟩
          rw [List.getElem?_map] at hx
          obtain ⟨gr, hgr, rfl⟩ := Option.map_eq_some_iff.mp hx
          have il : i' < ps.length := by rw [← plen]; exact (List.getElem?_eq_some_iff.mp hgr).1
          have hPi : ps[i']? = some ps[i'] := List.getElem?_eq_getElem il
          have rr := paired_ith g.run hgr hPi
          have es : ps.take (i' + 1) = ps.take i' ++ [ps[i']] := by rw [List.take_succ, hPi]; rfl
          obtain ⟨dr, er⟩ := id rr
          refine ⟨rfl, _, rfl, _, rfl, gr, dr, _, gn, hs, G.map (fun y => decide (y.1 = ps[i'].1 ∧ y.2 = ps[i'].2)), rfl, rfl, q1 _ _ er, q1 _ _ gg.at_, by rw [List.length_map, hsG], runs_eqs (Qb := fun _ => True) (H1 := HB) (RunAt.same rr q1) (gg.run.same q1), fun H3 e3 => ⟨_, rfl, ?_⟩⟩
          have any : (G.map fun y => decide (y.1 = ps[i'].1 ∧ y.2 = ps[i'].2)).any id = G.any fun y => decide (y.1 = ps[i'].1 ∧ y.2 = ps[i'].2) := by rw [List.any_map]; rfl
          rw [if_pos rfl, any]
          have e3D : H3 D = some (.lst (bs.map V.ref)) := e3 _ _ q2
          have k3 : Same HB H3 := fun c o e => e3 _ _ (q1 _ _ e)
          refine ite2 (fun h1 => ?_) fun h1 => ?_
          · refine ⟨_, rfl, _, e3D, Nat.lt_of_le_of_lt (by rw [List.length_map]; exact q4) (Nat.lt_of_lt_of_le (show i' < 64 by rw [pp.length_eq] at il; omega) (by decide)), bs ++ [gr], fun c o e => ?_, by rw [upd_same, List.map_append]; rfl, ?_, by rw [List.length_append]; show _ + 1 ≤ _; omega⟩
            · rw [upd_ne (fun w => by rw [w, nD] at e; cases e)]
              exact k3 _ _ e
            · have f1 : [ps[i']].filter (fun x => !(G.any fun y => decide (y.1 = x.1 ∧ y.2 = x.2))) = [ps[i']] := List.filter_eq_self.mpr fun x hx => by
                rw [List.mem_singleton.mp hx]
                exact h1
              rw [es, List.filter_append, f1]
              exact RunsAt.snoc q3 rr
          · refine ⟨bs, k3, e3D, ?_, Nat.le_succ_of_le q4⟩
            have f1 : [ps[i']].filter (fun x => !(G.any fun y => decide (y.1 = x.1 ∧ y.2 = x.2))) = [] := List.filter_eq_nil_iff.mpr fun x hx q => by
              rw [List.mem_singleton.mp hx] at q
              exact h1 q
            rw [es, List.filter_append, f1, List.append_nil]
            exact q3
        · rintro H' ⟨bs, q1, q2, q3, q4⟩
          rw [List.length_map, plen, List.take_length] at q3
          exact ⟨D, bs, rfl, j.same q1, ⟨q2, RunsAt.same q3 q1⟩, newT_of j.s0 nD, j.bag.ne nD⟩
      have pmF := Sm.perm_rest tkp pAG
      clear g gg j
      generalize (ps.filter fun x => !(G.any fun y => decide (y.1 = x.1 ∧ y.2 = x.2))) = ps' at pmF ⊢
      rintro _ HC ⟨D, bs, rfl, j, g, ngD, bD⟩
      have pm21 : ts2'.Perm ts1' := pA2.trans pA1.symm
      have l1 : ts1'.length ≤ ts1.length := by rw [pA1.length_eq]; omega
      -- both tell the same
      refine ⟨_, rfl, sp1, d1, n, mk, pol, ts1', rfl, j.one.at_, j.one.dct, tk1, by omega, n1, by omega, fun L HD l hL sD seD => ?_⟩
      have jE := j.same sD
      refine ⟨_, rfl, sp2, d2, n, mk, pol, ts2', rfl, jE.two.at_, jE.two.dct, tk2', by rw [pm21.length_eq]; omega, n1, by omega, fun L2 HE l2 hL2 sE seE => ?_⟩
      have eL : L2 = L := Sm.HL.uniq (Sm.hl_perm pm21.symm hL2) hL
      subst eL
      rw [Sm.sum_perm pm21] at seE
      refine ⟨_, _, (seD.same sE).dp, seE.dp, shaped_seen _ _ _, shaped_seen _ _ _, _, rfl, ?_⟩
      rw [eqv_self (shaped_seen _ _ _)]
      refine iteF ?_
      have jF := jE.same sE
      have gF := (g.same sD).same sE
      refine ⟨_, rfl, _, rfl, _, rfl, sp2, d2, D, n, mk, pol, ts2', bs, ps', rfl, jF.two.at_, jF.two.dct, tk2', by rw [pm21.length_eq]; omega, n1, by omega, gF.at_, gF.run, pmF.trans pA2.symm, fun HF sF => ⟨true, rfl, iteF ?_⟩⟩
      exact ⟨D, bs, ps', mk, ts1', ts2', N, _, _, _, _, _, _, _, rfl, jF.same sF, gF.same sF, ngD, bD, tk1, pm21, pmF.trans pA1.symm, by omega, k0, k1, by omega⟩
    clear j0 g0 ng0 bg0
    rintro _ H6 ⟨gv, gs, ps, mk, ts1, ts2, N, v9, v10, v11, v12, v13, v14, v15, rfl, j, g, ng, bg, tk, p2, pp, len, k0, k1, hN⟩
    have plen : ps.length ≤ 18 := by rw [pp.length_eq]; exact len
    have glen := paired_len g.run
    -- the end
    refine ⟨_, rfl, _, rfl, (by show 2 ≤ sizeLine; decide), fun tt ntt => ?_⟩
    have sT := put_same (o := .tup [.ref sp1, .ref sp2]) ntt
    have tpO : ∀ {H H' : Hp} {xs : List V}, H tt = some (.tup [.ref sp1, .ref sp2]) → H b = some (.lst xs) → OffN b H H' → H' tt = some (.tup [.ref sp1, .ref sp2]) := fun e e2 o => o.same e fun w => by rw [w, e2] at e; cases e
    have tpP : ∀ {H H' : Hp} {sp d : Addr} {mk : Int} {ts : List Pr}, H tt = some (.tup [.ref sp1, .ref sp2]) → Spc S H sp d n pol mk ts → putT sp d H H' → H' tt = some (.tup [.ref sp1, .ref sp2]) := fun e s k => by
      obtain ⟨dx, fs, y, _⟩ := s.at_
      exact k _ _ (fun w => by rw [w, y] at e; cases e) (fun w => by have := s.dct; rw [← w, e] at this; cases this) (fun _ w => by cases w) e
    refine ⟨tt, rfl, ⟨_, SqT.of upd_same⟩, for_tup (K := K) (a := tt) (xs := [.ref sp1, .ref sp2]) (fun i' σ H' => ∃ (mk1 mk2 : Int) (ts1 ts2 : List Pr) (N : Nat) (v12 v15 : Option V), σ = [some (.ref a), some (.ref pl), some (.int (0 + (i : Int))), some (.ref b), some (.int n), some pol, some (.ref sp1), some (.ref sp2), some (.ref gv), v9, v10, v11, v12, v13, v14, v15] ∧
          J C S Ts FL ixM H2 H' b sp1 d1 sp2 d2 n pol z pk mk1 ts1 mk2 ts2 N ∧ Giv C H' gv gs ps ∧ H' tt = some (.tup [.ref sp1, .ref sp2]) ∧ N ≤ 2000 + 100 * (i') ∧ (i' = 0 → Sm.Tk n ts1 ∧ ts1.Perm ps ∧ 0 ≤ mk1 ∧ mk1 ≤ n) ∧ (i' ≤ 1 → Sm.Tk n ts2 ∧ ts2.Perm ps ∧ 0 ≤ mk2 ∧ mk2 ≤ n)) ⟨mk, mk, ts1, ts2, N, v12, v15, rfl, j.same sT, g.same sT, upd_same, by omega, fun _ => ⟨tk, pp.symm, k0, k1⟩, fun _ => ⟨tk.perm p2, p2.trans pp.symm, k0, k1⟩⟩ (fun i' σ H' _ ⟨_, _, _, _, _, _, _, _, _, _, q, _⟩ => SqT.of q) ?_ ?_⟩
    rotate_left
    · rintro σ H' ⟨mk1, mk2, us1, us2, M, v12, v15, rfl, j', _⟩
      exact ⟨_, _, _, _, _, _, _, _, _, _, _, _, _, _, rfl, j'.s0, j'.tab⟩
    clear j g tk p2 pp len k0 k1 hN ts1 ts2
    rintro i' x σ H7 hx ⟨mk1, mk2, ts1, ts2, N, v12, v15, rfl, j, g, et, hN, q1, q2⟩
    have i2 : i' < 2 := (List.getElem?_eq_some_iff.mp hx).1
    have pick : ∃ (spA dA spB dB : Addr) (mkA mkB : Int) (tsA tsB : List Pr), x = .ref spA ∧ J C S Ts FL ixM H2 H7 b spA dA spB dB n pol z pk mkA tsA mkB tsB N ∧ Sm.Tk n tsA ∧ tsA.Perm ps ∧ 0 ≤ mkA ∧ mkA ≤ n ∧
        ∀ (H' : Hp) (mk' : Int) (ts' : List Pr) (N' : Nat) (u12 u15 : Option V), J C S Ts FL ixM H2 H' b spA dA spB dB n pol z pk mk' ts' mkB tsB N' → Giv C H' gv gs ps → H' tt = some (.tup [.ref sp1, .ref sp2]) → N' ≤ 2000 + 100 * (i' + 1) →
          ∃ (mk1 mk2 : Int) (ts1 ts2 : List Pr) (N : Nat) (v12 v15 : Option V), [some (.ref a), some (.ref pl), some (.int (0 + (i : Int))), some (.ref b), some (.int n), some pol, some (.ref sp1), some (.ref sp2), some (.ref gv), v9, v10, v11, u12, v13, v14, u15] = [some (.ref a), some (.ref pl), some (.int (0 + (i : Int))), some (.ref b), some (.int n), some pol, some (.ref sp1), some (.ref sp2), some (.ref gv), v9, v10, v11, v12, v13, v14, v15] ∧
          J C S Ts FL ixM H2 H' b sp1 d1 sp2 d2 n pol z pk mk1 ts1 mk2 ts2 N ∧ Giv C H' gv gs ps ∧ H' tt = some (.tup [.ref sp1, .ref sp2]) ∧ N ≤ 2000 + 100 * (i' + 1) ∧ (i' + 1 = 0 → Sm.Tk n ts1 ∧ ts1.Perm ps ∧ 0 ≤ mk1 ∧ mk1 ≤ n) ∧ (i' + 1 ≤ 1 → Sm.Tk n ts2 ∧ ts2.Perm ps ∧ 0 ≤ mk2 ∧ mk2 ≤ n) := by
      have : i' = 0 ∨ i' = 1 := by omega
      rcases this with rfl | rfl
      · cases hx
        obtain ⟨t1, t2, t3, t4⟩ := q1 rfl
        exact ⟨sp1, d1, sp2, d2, mk1, mk2, ts1, ts2, rfl, j, t1, t2, t3, t4, fun H' mk' ts' N' u12 u15 j' g' e' n' => ⟨mk', mk2, ts', ts2, N', u12, u15, rfl, j', g', e', n', fun w => absurd w (by omega), fun _ => q2 (by omega)⟩⟩
      · cases hx
        obtain ⟨t1, t2, t3, t4⟩ := q2 (by omega)
        exact ⟨sp2, d2, sp1, d1, mk2, mk1, ts2, ts1, rfl, j.swap, t1, t2, t3, t4, fun H' mk' ts' N' u12 u15 j' g' e' n' => ⟨mk1, mk', ts1, ts', N', u12, u15, rfl, j'.swap, g', e', n', fun w => absurd w (by omega), fun w => absurd w (by omega)⟩⟩
    obtain ⟨spA, dA, spB, dB, mkA, mkB, tsA, tsB, rfl, j, tk, pp, k0, k1, fin⟩ := pick
    clear q1 q2 hx
    -- all is given back
    refine ⟨fun σ H' => ∃ (N' : Nat) (v12 : Option V), σ = [some (.ref a), some (.ref pl), some (.int (0 + (i : Int))), some (.ref b), some (.int n), some pol, some (.ref sp1), some (.ref sp2), some (.ref gv), v9, v10, v11, v12, v13, v14, some (.ref spA)] ∧ J C S Ts FL ixM H2 H' b spA dA spB dB n pol z pk mkA [] mkB tsB N' ∧ Giv C H' gv gs ps ∧ H' tt = some (.tup [.ref sp1, .ref sp2]) ∧ N' ≤ 2000 + 100 * (i' + 1), ?_, ?_⟩
    · refine ⟨_, rfl, _, rfl, b, gv, _, N, rfl, g.at_, by rw [List.length_map, glen]; omega, j.bag, by omega, fun HA p ys pm off b8 np bp ep => ?_⟩
      have jA := j.draw b8 off
      obtain ⟨xb, ebg⟩ := j.bag.lst
      have gA := g.off ebg (Ne.symm bg) off
      have eA := tpO et ebg off
      obtain ⟨ms, rfl, hp⟩ := refs_perm pm
      obtain ⟨M, hM, qM⟩ := paired_perm hp gA.run
      have msM := paired_len hM
      refine ⟨p, rfl, ⟨_, SqL.of ep⟩, for_list (K := K) (a := p) (xs := ms.map V.ref) (fun m σ H' => ∃ (ts' : List Pr) (v12 : Option V), σ = [some (.ref a), some (.ref pl), some (.int (0 + (i : Int))), some (.ref b), some (.int n), some pol, some (.ref sp1), some (.ref sp2), some (.ref gv), v9, v10, v11, v12, v13, v14, some (.ref spA)] ∧ J C S Ts FL ixM H2 H' b spA dA spB dB n pol z pk mkA ts' mkB tsB (N + 64) ∧ Giv C H' gv gs ps ∧ H' tt = some (.tup [.ref sp1, .ref sp2]) ∧ Giv C H' p ms M ∧ Sm.Tk n ts' ∧ ts'.Perm ([] ++ M.drop m)) ⟨tsA, v12, rfl, jA, gA, eA, ⟨ep, hM⟩, tk, pp.trans qM.symm⟩ (fun m σ H' _ ⟨_, _, _, _, _, _, q, _⟩ => SqL.of q.at_) ?_ ?_⟩
      · rintro m x σ H' hx ⟨ts', v12, rfl, j', g', e', gm', tk', pm'⟩
        rw [List.getElem?_map] at hx
        obtain ⟨gr, hgr, rfl⟩ := Option.map_eq_some_iff.mp hx
        have il : m < M.length := by rw [← msM]; exact (List.getElem?_eq_some_iff.mp hgr).1
        have hGi : M[m]? = some M[m] := List.getElem?_eq_getElem il
        have rr := paired_ith gm'.run hgr hGi
        rw [List.drop_eq_getElem_cons il] at pm'
        generalize M[m] = y at pm' rr
        have hy : y ∈ ts' := pm'.mem_iff.mpr (List.mem_append.mpr (.inr (List.mem_cons_self ..)))
        obtain ⟨dx3, fs3, ha3, _, _, _, _, _, pf3⟩ := id j'.one.at_
        refine ⟨_, rfl, spA, dx3, _, rfl, ha3, pf3 "give_back" (by decide +kernel) (by decide +kernel) (by decide +kernel) (by decide +kernel), _, rfl, spA, gr, dA, n, n, mkA, y.1, y.2, _, ts', rfl, j'.one.at_, j'.one.dct, rr, tk', hy, fun H4 e4 d4 s4 => ?_⟩
        have kp : putT spA dA H' H4 := fun q o _ q2 _ w => e4 q o q2 w
        exact ⟨Sm.del ts' y.1, _, rfl, j'.give e4 d4 s4, g'.put j'.one kp, tpP e' j'.one kp, gm'.put j'.one kp, tk'.del _, Sm.perm_del tk' pm'⟩
      · rintro σ H' ⟨ts', v12, rfl, j', g', e', gm', tk', pm'⟩
        rw [List.length_map, msM, List.drop_length] at pm'
        have : ts' = [] := List.Perm.eq_nil pm'
        subst this
        exact ⟨N + 64, _, rfl, j', g', e', by omega⟩
    clear j g et tk pp
    rintro _ HA ⟨N', v12', rfl, j, g, et, hN'⟩
    -- one hole is left
    refine ⟨fun σ H' => σ = [some (.ref a), some (.ref pl), some (.int (0 + (i : Int))), some (.ref b), some (.int n), some pol, some (.ref sp1), some (.ref sp2), some (.ref gv), v9, v10, v11, v12', v13, v14, some (.ref spA)] ∧ J C S Ts FL ixM H2 H' b spA dA spB dB n pol z pk mkA [] mkB tsB N' ∧ Giv C H' gv gs ps ∧ H' tt = some (.tup [.ref sp1, .ref sp2]), ?_, ?_⟩
    · refine ⟨_, rfl, spA, dA, n, mkA, pol, [], rfl, j.one.at_, j.one.dct, Sm.Tk.nil, (by decide), n1, by omega, fun L HB l hL sB seB => ?_⟩
      obtain ⟨lp, qs, el, elp, pq⟩ := seB
      have eL := Sm.hl_all n1 hL
      subst eL
      refine ⟨_, rfl, l, _, rfl, SqL.of el, fun p np => ?_⟩
      have sC := put_same (o := .lst [V.ref lp, .int (n - (([] : List Pr).map (·.2)).sum)]) np
      have e0 : cutV [V.ref lp, .int (n - (([] : List Pr).map (·.2)).sum), .int mkA] none (some 2) = [V.ref lp, .int (n - (([] : List Pr).map (·.2)).sum)] := rfl
      rw [e0]
      have ep : (upd HB p (.lst [V.ref lp, .int (n - (([] : List Pr).map (·.2)).sum)])) p = some (.lst [V.ref lp, .int n]) := by
        rw [upd_same]
        simp
      have elp3 := sC _ _ elp
      have pq3 : Paired (fun (t : Addr) (x : Pr) => (upd HB p (.lst [V.ref lp, .int (n - (([] : List Pr).map (·.2)).sum)])) t = some (.tup [.int x.1, .int x.2])) qs [(0, n)] := L2.Paired.mapP pq fun t x w => sC _ _ w
      generalize (upd HB p (.lst [V.ref lp, .int (n - (([] : List Pr).map (·.2)).sum)])) = HC at sC ep elp3 pq3 ⊢
      refine ⟨_, rfl, (by show 2 ≤ sizeLine; decide), fun t1 nt1 => ⟨(by show 1 ≤ sizeLine; decide), fun l1 nl1 => ⟨_, rfl, (by show 2 ≤ sizeLine; decide), fun l2 nl2 => ?_⟩⟩⟩
      have sD := put_same (o := .tup [.int 0, .int n]) nt1
      have sE := put_same (o := .lst [.ref t1]) nl1
      have sF := put_same (o := .lst [.ref l1, .int n]) nl2
      have dEnd : ∀ {Hx : Hp} {q lq : Addr} {qs : List Addr}, Hx q = some (.lst [.ref lq, .int n]) → Hx lq = some (.lst (qs.map V.ref)) → Paired (fun (t : Addr) (x : Pr) => Hx t = some (.tup [.int x.1, .int x.2])) qs [(0, n)] → Dp K Hx (.ref q) (.list [Eq0.dPr [(0, n)], .int n]) := fun h1 h2 h3 => .lst (SqL.of h1) (.cons (Eq0.dp_pr h2 h3) (.cons (.int _) .nil))
      have sh : SeqAt.shaped (.list [Eq0.dPr [(0, n)], .int n]) = true := shaped_end n
      refine ⟨_, _, dEnd (sF _ _ (sE _ _ (sD _ _ ep))) (sF _ _ (sE _ _ (sD _ _ elp3))) (L2.Paired.mapP pq3 fun t x w => sF _ _ (sE _ _ (sD _ _ w))), dEnd (qs := [t1]) upd_same (sF _ _ upd_same) (.cons (sF _ _ (sE _ _ upd_same)) .nil), sh, sh, _, rfl, ?_⟩
      rw [eqv_self sh]
      refine iteF ?_
      have sAll := (((sB.trans sC).trans sD).trans sE).trans sF
      exact ⟨rfl, j.same sAll, g.same sAll, sAll _ _ et⟩
    clear j g et
    rintro _ HB ⟨rfl, j, g, et⟩
    -- and it is answered whole
    have rest : z ≠ "halves" → ∀ (Qx : VK), (∀ r H', J C S Ts FL ixM H2 H' b spA dA spB dB n pol z pk (if pol = .str "next" then n else mkA) [(0, n)] mkB tsB N' → Giv C H' gv gs ps → H' tt = some (.tup [.ref sp1, .ref sp2]) → Qx (.ref r) H') → spLAskA Ts C S FL ixM [.ref spA, .int n] HB Qx C8.E0 := fun hz Qx hq => by
      refine ⟨spA, dA, n, mkA, n, pol, z, pk, [], rfl, j.one.at_, j.pol_, j.one.dct, Sm.Tk.nil, (by decide), n1, by omega, n1, by omega, fun w => absurd w hz, k0, by omega, j.tab, fun L s hL hs s1 s2' => ?_⟩
      have eL := Sm.hl_all n1 hL
      subst eL
      have es : s = n := by
        unfold szOk at hs
        rw [if_neg hz] at hs
        exact hs
      subst es
      refine ⟨fun c hc H' r e' T' nr rr d' s' => ?_, fun hn => absurd hn (ans_all j.pol_ hz n1)⟩
      obtain ⟨c0, c1, _, _⟩ := fit_free j.pol_.fit Sm.Tk.nil hL (by omega) n1 k0 hc
      have ec : c = 0 := by omega
      subst ec
      rw [Int.zero_add] at s'
      exact hq r H' (j.put e' T' ⟨s', d'⟩) (g.put j.one e') (tpP et j.one e')
    refine ⟨_, rfl, "halves", rfl, ?_⟩
    have goOn : z ≠ "halves" → True := fun _ => trivial
    rcases id j.pol_ with ⟨rfl, _⟩ | ⟨f, rfl, hlam, rfl, _⟩
    · refine .inl ⟨z, rfl, _, rfl, ?_⟩
      by_cases hz : z = "halves"
      · rw [if_pos rfl, decide_eq_true (show V.str z = V.str "halves" by rw [hz])]
        exact iteF (fin HB mkA [] N' _ _ j g et hN')
      · rw [if_pos rfl, decide_eq_false (show ¬ V.str z = V.str "halves" from fun q => hz (V.str.inj q))]
        refine iteT ⟨_, rfl, _, rfl, ?_⟩
        dsimp only [tNil]
        exact rest hz _ fun r H' j' g' e' => ⟨rfl, _, rfl, iteF (fin H' _ _ N' _ _ j' g' e' hN')⟩
    · refine .inr ⟨f, rfl, hlam, _, rfl, iteT ⟨_, rfl, _, rfl, ?_⟩⟩
      dsimp only [tNil]
      exact rest (by decide +kernel) _ fun r H' j' g' e' => ⟨rfl, _, rfl, iteF (fin H' _ _ N' _ _ j' g' e' hN')⟩
end
end Sc
namespace Sc
open PySem L2
/-! ### what the top has written, the head -/
theorem all_mk {lw : PySem.W.OpenLaw} {w : World} {K : PySem.W.Frag} {h : Heap} {mg : Str → Option Value} {fa f1 f2 f18 f19 f31 f32 f33 f34 f35 f41 f4 f36 f37 f5 f6 f7 f8 f9 f38 f39 f40 f10 f11 f21 f22 f23 f24 f12 f13 f14 f15 f20 f30 pp4 pp36 pp37 pp5 dt30 C S CN : Addr} {tM tp1 tp2 tp3 tp4 tp5 tfO : Tok} {fN cc cda tp cp : Addr} {ocN docN pmN ctN ocC ocO : Value} {odN odC odO odP : Option Addr} {slN slC slO slP : Array (Option Value)} {vsO : Array Value} {fiO : Str} {esC : Array DictEntry} {nP nC : Nat} {cB cW cL pB pW pL : Addr} (X : K.In h) (G : h.Ns mainGlobals mg) (hfa : mg "law" = some (.ref fa))
    {od1 an1 od2 an2 od18 an18 od19 an19 od31 an31 od32 an32 od33 an33 od34 an34 od35 an35 od41 an41 od4 an4 od36 an36 od37 an37 od5 an5 od6 an6 od7 an7 od8 an8 od9 an9 od38 an38 od39 an39 od40 an40 od10 an10 od11 an11 od21 an21 od22 an22 od23 an23 od24 an24 od12 an12 od13 an13 od14 an14 od15 an15 od20 an20 od30 an30 : Option Addr} {sl1 sl2 sl18 sl19 sl31 sl32 sl33 sl34 sl35 sl41 sl4 sl36 sl37 sl5 sl6 sl7 sl8 sl9 sl38 sl39 sl40 sl10 sl11 sl21 sl22 sl23 sl24 sl12 sl13 sl14 sl15 sl20 sl30 : Array (Option Value)} {oc1 kV1 dc1 pm1 cd1 ct1 oc2 kV2 dc2 pm2 cd2 ct2 oc18 kV18 dc18 pm18 cd18 ct18 oc19 kV19 dc19 pm19 cd19 ct19 oc31 kV31 dc31 pm31 cd31 ct31 oc32 kV32 dc32 pm32 cd32 ct32 oc33 kV33 dc33 pm33 cd33 ct33 oc34 kV34 dc34 pm34 cd34 ct34 oc35 kV35 dc35 pm35 cd35 ct35 oc41 kV41 dc41 pm41 cd41 ct41 oc4 kV4 dc4 pm4 cd4 ct4 oc36 kV36 dc36 pm36 cd36 ct36 oc37 kV37 dc37 pm37 cd37 ct37 oc5 kV5 dc5 pm5 cd5 ct5 oc6 kV6 dc6 pm6 cd6 ct6 oc7 kV7 dc7 pm7 cd7 ct7 oc8 kV8 dc8 pm8 cd8 ct8 oc9 kV9 dc9 pm9 cd9 ct9 oc38 kV38 dc38 pm38 cd38 ct38 oc39 kV39 dc39 pm39 cd39 ct39 oc40 kV40 dc40 pm40 cd40 ct40 oc10 kV10 dc10 pm10 cd10 ct10 oc11 kV11 dc11 pm11 cd11 ct11 oc21 kV21 dc21 pm21 cd21 ct21 oc22 kV22 dc22 pm22 ct22 oc23 kV23 dc23 pm23 ct23 oc24 kV24 dc24 pm24 cd24 ct24 oc12 kV12 dc12 pm12 cd12 ct12 oc13 kV13 dc13 pm13 cd13 ct13 oc14 kV14 dc14 pm14 cd14 ct14 oc15 kV15 dc15 pm15 cd15 ct15 oc20 kV20 dc20 pm20 ct20 oc30 kV30 dc30 pm30 cd30 ct30 : Value}
    {rest4 rest36 rest37 rest5 : List Value}
    {oD30 : Option Addr} {nD30 : Nat} {sD30 : Array (Option Value)} {tk30_0 : Tok}
    (aC : PySem.W.nsIn K mainGlobals "Run" = some (some (.ref C)))
    (aS : PySem.W.nsIn K mainGlobals "Space" = some (some (.ref S)))
    (aCN : PySem.W.nsIn K mainGlobals "NoRoom" = some (some (.ref CN)))
    (a1 : PySem.W.findIn K (.ref C) "__init__" = some (some (.ref f1)))
    (i1 : PySem.W.isFn K (.ref f1) = true)
    (a2 : PySem.W.findIn K (.ref C) "words" = some (some (.ref f2)))
    (i2 : PySem.W.isFn K (.ref f2) = true)
    (a18 : PySem.W.findIn K (.ref C) "__contains__" = some (some (.ref f18)))
    (i18 : PySem.W.isFn K (.ref f18) = true)
    (a19 : PySem.W.findIn K (.ref C) "__eq__" = some (some (.ref f19)))
    (i19 : PySem.W.isFn K (.ref f19) = true)
    (a31 : PySem.W.findIn K (.ref S) "holes" = some (some (.ref f31)))
    (i31 : PySem.W.isFn K (.ref f31) = true)
    (a32 : PySem.W.findIn K (.ref S) "take" = some (some (.ref f32)))
    (i32 : PySem.W.isFn K (.ref f32) = true)
    (a33 : PySem.W.findIn K (.ref S) "choose" = some (some (.ref f33)))
    (i33 : PySem.W.isFn K (.ref f33) = true)
    (a34 : PySem.W.findIn K (.ref S) "occupy" = some (some (.ref f34)))
    (i34 : PySem.W.isFn K (.ref f34) = true)
    (a35 : PySem.W.findIn K (.ref S) "give_back" = some (some (.ref f35)))
    (i35 : PySem.W.isFn K (.ref f35) = true)
    (a41 : PySem.W.findIn K (.ref S) "_asked" = some (some (.ref f41)))
    (i41 : PySem.W.isFn K (.ref f41) = true)
    (a30 : PySem.W.findIn K (.ref S) "__init__" = some (some (.ref f30)))
    (i30 : PySem.W.isFn K (.ref f30) = true)
    (p14 : PySem.W.findIn K (.ref C) "end" = some (some (.ref pp4)))
    (p24 : PySem.W.specialIn K (.ref pp4) "__get__" = some (some (.builtin "property.__get__")))
    (p34 : PySem.W.takesIn K (.ref pp4) = some true)
    (p44 : PySem.W.recIn K pp4 "property" = some (.ref f4 :: rest4))
    (p136 : PySem.W.findIn K (.ref S) "free" = some (some (.ref pp36)))
    (p236 : PySem.W.specialIn K (.ref pp36) "__get__" = some (some (.builtin "property.__get__")))
    (p336 : PySem.W.takesIn K (.ref pp36) = some true)
    (p436 : PySem.W.recIn K pp36 "property" = some (.ref f36 :: rest36))
    (p137 : PySem.W.findIn K (.ref S) "mark" = some (some (.ref pp37)))
    (p237 : PySem.W.specialIn K (.ref pp37) "__get__" = some (some (.builtin "property.__get__")))
    (p337 : PySem.W.takesIn K (.ref pp37) = some true)
    (p437 : PySem.W.recIn K pp37 "property" = some (.ref f37 :: rest37))
    (q15 : PySem.W.findCls K (.ref C) (.type "type") "between" = some (.get (.builtin "classmethod.__get__") (.ref pp5) .none (.ref C)))
    (q25 : PySem.W.recIn K pp5 "classmethod" = some (.ref f5 :: rest5))
    (q35 : PySem.W.fnIn K f5 = true)
    (a6 : PySem.W.nsIn K mainGlobals "integer" = some (some (.ref f6)))
    (a7 : PySem.W.nsIn K mainGlobals "whole" = some (some (.ref f7)))
    (a8 : PySem.W.nsIn K mainGlobals "_law_bag" = some (some (.ref f8)))
    (a9 : PySem.W.nsIn K mainGlobals "_law_take" = some (some (.ref f9)))
    (a38 : PySem.W.nsIn K mainGlobals "holes_of" = some (some (.ref f38)))
    (a39 : PySem.W.nsIn K mainGlobals "size_of" = some (some (.ref f39)))
    (a40 : PySem.W.nsIn K mainGlobals "answer_of" = some (some (.ref f40)))
    (a10 : PySem.W.nsIn K mainGlobals "_power" = some (some (.ref f10)))
    (a11 : PySem.W.nsIn K mainGlobals "_halves" = some (some (.ref f11)))
    (a21 : PySem.W.nsIn K mainGlobals "_first" = some (some (.ref f21)))
    (a22 : PySem.W.nsIn K mainGlobals "_best" = some (some (.ref f22)))
    (a23 : PySem.W.nsIn K mainGlobals "_worst" = some (some (.ref f23)))
    (a24 : PySem.W.nsIn K mainGlobals "_next" = some (some (.ref f24)))
    (a12 : PySem.W.nsIn K mainGlobals "_law_seen" = some (some (.ref f12)))
    (a13 : PySem.W.nsIn K mainGlobals "_law_is_parted" = some (some (.ref f13)))
    (a14 : PySem.W.nsIn K mainGlobals "_law_mixed" = some (some (.ref f14)))
    (a15 : PySem.W.nsIn K mainGlobals "_law_asked" = some (some (.ref f15)))
    (a20 : PySem.W.nsIn K mainGlobals "law" = some (some (.ref f20)))
    (l1 : K.lookup f1 = some ⟨oc1, od1, .func (PySem.W.fnOf "__init__" "Run.__init__" (defArgs sInit) (defBody sInit) (defScope sInit) .none kV1 dc1 pm1 an1 cd1 ct1), sl1⟩)
    (c1 : PySem.W.codeIn K cd1 "Run.__init__" = true)
    (k1 : PySem.W.keepIn K (.ref f1) = true)
    (l2 : K.lookup f2 = some ⟨oc2, od2, .func (PySem.W.fnOf "words" "Run.words" (defArgs s_Run_words) (defBody s_Run_words) (defScope s_Run_words) .none kV2 dc2 pm2 an2 cd2 ct2), sl2⟩)
    (c2 : PySem.W.codeIn K cd2 "Run.words" = true)
    (k2 : PySem.W.keepIn K (.ref f2) = true)
    (l18 : K.lookup f18 = some ⟨oc18, od18, .func (PySem.W.fnOf "__contains__" "Run.__contains__" (defArgs s_Run___contains__) (defBody s_Run___contains__) (defScope s_Run___contains__) .none kV18 dc18 pm18 an18 cd18 ct18), sl18⟩)
    (c18 : PySem.W.codeIn K cd18 "Run.__contains__" = true)
    (k18 : PySem.W.keepIn K (.ref f18) = true)
    (l19 : K.lookup f19 = some ⟨oc19, od19, .func (PySem.W.fnOf "__eq__" "Run.__eq__" (defArgs s_Run___eq__) (defBody s_Run___eq__) (defScope s_Run___eq__) .none kV19 dc19 pm19 an19 cd19 ct19), sl19⟩)
    (c19 : PySem.W.codeIn K cd19 "Run.__eq__" = true)
    (k19 : PySem.W.keepIn K (.ref f19) = true)
    (l31 : K.lookup f31 = some ⟨oc31, od31, .func (PySem.W.fnOf "holes" "Space.holes" (defArgs s_Space_holes) (defBody s_Space_holes) (defScope s_Space_holes) .none kV31 dc31 pm31 an31 cd31 ct31), sl31⟩)
    (c31 : PySem.W.codeIn K cd31 "Space.holes" = true)
    (k31 : PySem.W.keepIn K (.ref f31) = true)
    (l32 : K.lookup f32 = some ⟨oc32, od32, .func (PySem.W.fnOf "take" "Space.take" (defArgs s_Space_take) (defBody s_Space_take) (defScope s_Space_take) .none kV32 dc32 pm32 an32 cd32 ct32), sl32⟩)
    (c32 : PySem.W.codeIn K cd32 "Space.take" = true)
    (k32 : PySem.W.keepIn K (.ref f32) = true)
    (l33 : K.lookup f33 = some ⟨oc33, od33, .func (PySem.W.fnOf "choose" "Space.choose" (defArgs s_Space_choose) (defBody s_Space_choose) (defScope s_Space_choose) .none kV33 dc33 pm33 an33 cd33 ct33), sl33⟩)
    (c33 : PySem.W.codeIn K cd33 "Space.choose" = true)
    (k33 : PySem.W.keepIn K (.ref f33) = true)
    (l34 : K.lookup f34 = some ⟨oc34, od34, .func (PySem.W.fnOf "occupy" "Space.occupy" (defArgs s_Space_occupy) (defBody s_Space_occupy) (defScope s_Space_occupy) .none kV34 dc34 pm34 an34 cd34 ct34), sl34⟩)
    (c34 : PySem.W.codeIn K cd34 "Space.occupy" = true)
    (k34 : PySem.W.keepIn K (.ref f34) = true)
    (l35 : K.lookup f35 = some ⟨oc35, od35, .func (PySem.W.fnOf "give_back" "Space.give_back" (defArgs s_Space_give_back) (defBody s_Space_give_back) (defScope s_Space_give_back) .none kV35 dc35 pm35 an35 cd35 ct35), sl35⟩)
    (c35 : PySem.W.codeIn K cd35 "Space.give_back" = true)
    (k35 : PySem.W.keepIn K (.ref f35) = true)
    (l41 : K.lookup f41 = some ⟨oc41, od41, .func (PySem.W.fnOf "_asked" "Space._asked" (defArgs s_Space__asked) (defBody s_Space__asked) (defScope s_Space__asked) .none kV41 dc41 pm41 an41 cd41 ct41), sl41⟩)
    (c41 : PySem.W.codeIn K cd41 "Space._asked" = true)
    (k41 : PySem.W.keepIn K (.ref f41) = true)
    (l4 : K.lookup f4 = some ⟨oc4, od4, .func (PySem.W.fnOf "end" "Run.end" (defArgs sEnd) (defBody sEnd) (defScope sEnd) .none kV4 dc4 pm4 an4 cd4 ct4), sl4⟩)
    (c4 : PySem.W.codeIn K cd4 "Run.end" = true)
    (k4 : PySem.W.keepIn K (.ref f4) = true)
    (l36 : K.lookup f36 = some ⟨oc36, od36, .func (PySem.W.fnOf "free" "Space.free" (defArgs s_Space_free) (defBody s_Space_free) (defScope s_Space_free) .none kV36 dc36 pm36 an36 cd36 ct36), sl36⟩)
    (c36 : PySem.W.codeIn K cd36 "Space.free" = true)
    (k36 : PySem.W.keepIn K (.ref f36) = true)
    (l37 : K.lookup f37 = some ⟨oc37, od37, .func (PySem.W.fnOf "mark" "Space.mark" (defArgs s_Space_mark) (defBody s_Space_mark) (defScope s_Space_mark) .none kV37 dc37 pm37 an37 cd37 ct37), sl37⟩)
    (c37 : PySem.W.codeIn K cd37 "Space.mark" = true)
    (k37 : PySem.W.keepIn K (.ref f37) = true)
    (l5 : K.lookup f5 = some ⟨oc5, od5, .func (PySem.W.fnOf "between" "Run.between" (defArgs sBetween) (defBody sBetween) (defScope sBetween) .none kV5 dc5 pm5 an5 cd5 ct5), sl5⟩)
    (c5 : PySem.W.codeIn K cd5 "Run.between" = true)
    (k5 : PySem.W.keepIn K (.ref f5) = true)
    (l6 : K.lookup f6 = some ⟨oc6, od6, .func (PySem.W.fnOf "integer" "integer" (defArgs sInteger) (defBody sInteger) (defScope sInteger) .none kV6 dc6 pm6 an6 cd6 ct6), sl6⟩)
    (c6 : PySem.W.codeIn K cd6 "integer" = true)
    (k6 : PySem.W.keepIn K (.ref f6) = true)
    (l7 : K.lookup f7 = some ⟨oc7, od7, .func (PySem.W.fnOf "whole" "whole" (defArgs sWhole) (defBody sWhole) (defScope sWhole) .none kV7 dc7 pm7 an7 cd7 ct7), sl7⟩)
    (c7 : PySem.W.codeIn K cd7 "whole" = true)
    (k7 : PySem.W.keepIn K (.ref f7) = true)
    (l8 : K.lookup f8 = some ⟨oc8, od8, .func (PySem.W.fnOf "_law_bag" "_law_bag" (defArgs sBag) (defBody sBag) (defScope sBag) .none kV8 dc8 pm8 an8 cd8 ct8), sl8⟩)
    (c8 : PySem.W.codeIn K cd8 "_law_bag" = true)
    (k8 : PySem.W.keepIn K (.ref f8) = true)
    (l9 : K.lookup f9 = some ⟨oc9, od9, .func (PySem.W.fnOf "_law_take" "_law_take" (defArgs sTake) (defBody sTake) (defScope sTake) .none kV9 dc9 pm9 an9 cd9 ct9), sl9⟩)
    (c9 : PySem.W.codeIn K cd9 "_law_take" = true)
    (k9 : PySem.W.keepIn K (.ref f9) = true)
    (l38 : K.lookup f38 = some ⟨oc38, od38, .func (PySem.W.fnOf "holes_of" "holes_of" (defArgs s_holes_of) (defBody s_holes_of) (defScope s_holes_of) .none kV38 dc38 pm38 an38 cd38 ct38), sl38⟩)
    (c38 : PySem.W.codeIn K cd38 "holes_of" = true)
    (k38 : PySem.W.keepIn K (.ref f38) = true)
    (l39 : K.lookup f39 = some ⟨oc39, od39, .func (PySem.W.fnOf "size_of" "size_of" (defArgs s_size_of) (defBody s_size_of) (defScope s_size_of) .none kV39 dc39 pm39 an39 cd39 ct39), sl39⟩)
    (c39 : PySem.W.codeIn K cd39 "size_of" = true)
    (k39 : PySem.W.keepIn K (.ref f39) = true)
    (l40 : K.lookup f40 = some ⟨oc40, od40, .func (PySem.W.fnOf "answer_of" "answer_of" (defArgs s_answer_of) (defBody s_answer_of) (defScope s_answer_of) .none kV40 dc40 pm40 an40 cd40 ct40), sl40⟩)
    (c40 : PySem.W.codeIn K cd40 "answer_of" = true)
    (k40 : PySem.W.keepIn K (.ref f40) = true)
    (l10 : K.lookup f10 = some ⟨oc10, od10, .func (PySem.W.fnOf "_power" "_power" (defArgs s__power) (defBody s__power) (defScope s__power) .none kV10 dc10 pm10 an10 cd10 ct10), sl10⟩)
    (c10 : PySem.W.codeIn K cd10 "_power" = true)
    (k10 : PySem.W.keepIn K (.ref f10) = true)
    (l11 : K.lookup f11 = some ⟨oc11, od11, .func (PySem.W.fnOf "_halves" "_halves" (defArgs s__halves) (defBody s__halves) (defScope s__halves) .none kV11 dc11 pm11 an11 cd11 ct11), sl11⟩)
    (c11 : PySem.W.codeIn K cd11 "_halves" = true)
    (k11 : PySem.W.keepIn K (.ref f11) = true)
    (l21 : K.lookup f21 = some ⟨oc21, od21, .func (PySem.W.fnOf "_first" "_first" (defArgs s__first) (defBody s__first) (defScope s__first) .none kV21 dc21 pm21 an21 cd21 ct21), sl21⟩)
    (c21 : PySem.W.codeIn K cd21 "_first" = true)
    (k21 : PySem.W.keepIn K (.ref f21) = true)
    (l22 : K.lookup f22 = some ⟨oc22, od22, .func (PySem.W.fnOf "_best" "_best" (defArgs s__best) (defBody s__best) (defScope s__best) .none kV22 dc22 pm22 an22 (.ref cB) ct22), sl22⟩)
    (c22 : PySem.W.codeIn K (.ref cB) "_best" = true)
    (k22 : PySem.W.keepIn K (.ref f22) = true)
    (l23 : K.lookup f23 = some ⟨oc23, od23, .func (PySem.W.fnOf "_worst" "_worst" (defArgs s__worst) (defBody s__worst) (defScope s__worst) .none kV23 dc23 pm23 an23 (.ref cW) ct23), sl23⟩)
    (c23 : PySem.W.codeIn K (.ref cW) "_worst" = true)
    (k23 : PySem.W.keepIn K (.ref f23) = true)
    (l24 : K.lookup f24 = some ⟨oc24, od24, .func (PySem.W.fnOf "_next" "_next" (defArgs s__next) (defBody s__next) (defScope s__next) .none kV24 dc24 pm24 an24 cd24 ct24), sl24⟩)
    (c24 : PySem.W.codeIn K cd24 "_next" = true)
    (k24 : PySem.W.keepIn K (.ref f24) = true)
    (l12 : K.lookup f12 = some ⟨oc12, od12, .func (PySem.W.fnOf "_law_seen" "_law_seen" (defArgs s__law_seen) (defBody s__law_seen) (defScope s__law_seen) .none kV12 dc12 pm12 an12 cd12 ct12), sl12⟩)
    (c12 : PySem.W.codeIn K cd12 "_law_seen" = true)
    (k12 : PySem.W.keepIn K (.ref f12) = true)
    (l13 : K.lookup f13 = some ⟨oc13, od13, .func (PySem.W.fnOf "_law_is_parted" "_law_is_parted" (defArgs s__law_is_parted) (defBody s__law_is_parted) (defScope s__law_is_parted) .none kV13 dc13 pm13 an13 cd13 ct13), sl13⟩)
    (c13 : PySem.W.codeIn K cd13 "_law_is_parted" = true)
    (k13 : PySem.W.keepIn K (.ref f13) = true)
    (l14 : K.lookup f14 = some ⟨oc14, od14, .func (PySem.W.fnOf "_law_mixed" "_law_mixed" (defArgs s__law_mixed) (defBody s__law_mixed) (defScope s__law_mixed) .none kV14 dc14 pm14 an14 cd14 ct14), sl14⟩)
    (c14 : PySem.W.codeIn K cd14 "_law_mixed" = true)
    (k14 : PySem.W.keepIn K (.ref f14) = true)
    (l15 : K.lookup f15 = some ⟨oc15, od15, .func (PySem.W.fnOf "_law_asked" "_law_asked" (defArgs s__law_asked) (defBody s__law_asked) (defScope s__law_asked) .none kV15 dc15 pm15 an15 cd15 ct15), sl15⟩)
    (c15 : PySem.W.codeIn K cd15 "_law_asked" = true)
    (k15 : PySem.W.keepIn K (.ref f15) = true)
    (l20 : K.lookup f20 = some ⟨oc20, od20, .func (PySem.W.fnOf "law" "law" (defArgs s_law) (defBody s_law) (defScope s_law) .none kV20 dc20 pm20 an20 (.ref cL) ct20), sl20⟩)
    (c20 : PySem.W.codeIn K (.ref cL) "law" = true)
    (k20 : PySem.W.keepIn K (.ref f20) = true)
    (l30 : K.lookup f30 = some ⟨oc30, od30, .func (PySem.W.fnOf "__init__" "Space.__init__" (defArgs s_Space___init__) (defBody s_Space___init__) (defScope s_Space___init__) (.ref dt30) kV30 dc30 pm30 an30 cd30 ct30), sl30⟩)
    (c30 : PySem.W.codeIn K cd30 "Space.__init__" = true)
    (k30 : PySem.W.keepIn K (.ref f30) = true)
    (d30 : K.lookup dt30 = some ⟨.type "tuple", oD30, .seq #[.str "first" tk30_0] nD30, sD30⟩)
    (pg : PySem.W.plainGet K C Str.empty = true)
    (hd : PySem.W.hasDictIn K C = true)
    (po : PySem.W.plainOver K C = true)
    (sa : PySem.W.findIn K (.ref C) "__setattr__" = some (some (.builtin "object.__setattr__")))
    (mk : PySem.W.makesIn K C = true)
    (kc : PySem.W.keepIn K (.ref C) = true)
    (nF : PySem.W.findIn K (.ref C) "first" = some none)
    (nM : PySem.W.findIn K (.ref C) "many" = some none)
    (r1 : PySem.W.readsIn K C (.type "type") = true)
    (r2 : PySem.W.specialIn K (.ref C) "__getattribute__" = some (some (.builtin "type.__getattribute__")))
    (mo : PySem.W.nsIn K mainGlobals "_MOST" = some (some (.int 1000000000000 tM)))
    (e1 : PySem.W.findIn K (.ref C) "__class__" = some (some (.builtin "object.__class__")))
    (e2 : PySem.W.specialIn K (.builtin "object.__class__") "__get__" = some (some (.builtin "getset_descriptor.__get__")))
    (e3 : PySem.W.takesIn K (.builtin "object.__class__") = some true)
    (e4 : PySem.W.mroIn K C (.type "object") = some true)
    (e5 : PySem.W.kitOne K (.ref C) (.type "int") = some false)
    (spg : PySem.W.plainGet K S Str.empty = true)
    (shd : PySem.W.hasDictIn K S = true)
    (spo : PySem.W.plainOver K S = true)
    (ssa : PySem.W.findIn K (.ref S) "__setattr__" = some (some (.builtin "object.__setattr__")))
    (smk : PySem.W.makesIn K S = true)
    (skc : PySem.W.keepIn K (.ref S) = true)
    (s1 : PySem.W.findIn K (.ref S) "_pages" = some none)
    (s2 : PySem.W.findIn K (.ref S) "_policy" = some none)
    (s3 : PySem.W.findIn K (.ref S) "_mark" = some none)
    (s4 : PySem.W.findIn K (.ref S) "_taken" = some none)
    (n_qq : PySem.W.excInitIn K CN ovTail "OverflowError.__new__" = true)
    (n_ov : PySem.W.excOver K CN ovTail = true)
    (n_hd : PySem.W.hasDictIn K CN = true)
    (n_sa : PySem.W.findIn K (.ref CN) "__setattr__" = some (some (.builtin "object.__setattr__")))
    (n_ex : PySem.W.subIn K (.ref CN) (.type "BaseException") = some true)
    (n_ty : PySem.W.typeIn K (.ref CN) = some (.type "type"))
    (n_kc : PySem.W.keepIn K (.ref CN) = true)
    (n_sb : PySem.W.subIn K (.ref CN) (.type "OverflowError") = some true)
    (n_iC : PySem.W.findIn K (.ref CN) "__init__" = some (some (.ref fN)))
    (n_lk : K.lookup fN = some ⟨ocN, odN, .func ((nfNR cc cda).fd docN pmN ctN), slN⟩)
    (n_cd : PySem.W.codeIn K (.ref cda) "NoRoom.__init__" = true)
    (n_lc : K.lookup cc = some ⟨ocC, odC, .cell (some (.ref CN)), slC⟩)
    (n_co : K.lookup cda = some ⟨ocO, odO, .fields vsO, slO⟩)
    (n_vs : vsO[2]? = some (.str fiO tfO))
    (n_fi : ((lw.prog.main.file : Str) == fiO) = true)
    (n_top : (lw.prog.main.scope.names.lookup ("super" : Str)).isSome = false)
    (n_su : PySem.W.nsIn K mainGlobals "super" = some none)
    (n_mr : PySem.W.mroIn K CN (.ref CN) = some true)
    (n_si : PySem.W.ks_superIn K CN CN "__init__" = some (some (.builtin "OverflowError.__init__")))
    (n_op : PySem.W.nsIn K cStatics "thirdparty.any" = some none)
    (n_tk : PySem.W.takerIn K CN "many" = some none)
    (n_tI : PySem.W.typeIn K (.ref fN) = some (.type "function"))
    (n_sP : PySem.W.subIn K (.ref CN) (.ref CN) = some true)
    (n_ga : PySem.W.findIn K (.ref CN) "__getattribute__" = some (some (.builtin "BaseException.__getattribute__")))
    (n_gg : PySem.W.findIn K (.ref CN) "__getattr__" = some none)
    (n_nm : PySem.W.findIn K (.ref CN) "many" = some none)
    (pol : PySem.W.nsIn K mainGlobals "POLICIES" = some (some (.ref tp)))
    (poll : K.lookup tp = some ⟨.type "tuple", odP, .seq #[.str "first" tp1, .str "best" tp2, .str "worst" tp3, .str "next" tp4, .str "halves" tp5] nP, slP⟩)
    (cho : PySem.W.nsIn K mainGlobals "_CHOICES" = some (some (.ref cp)))
    (chl : K.lookup cp = some ⟨.type "dict", none, .dict esC nC, #[]⟩)
    (chk : PySem.W.KeysLit w.params esC.toList)
    (z_len : PySem.W.nsIn K mainGlobals "len" = some none)
    (z_abs : PySem.W.nsIn K mainGlobals "abs" = some none)
    (z_range : PySem.W.nsIn K mainGlobals "range" = some none)
    (z_min : PySem.W.nsIn K mainGlobals "min" = some none)
    (z_max : PySem.W.nsIn K mainGlobals "max" = some none)
    (z_list : PySem.W.nsIn K mainGlobals "list" = some none)
    (z_sum : PySem.W.nsIn K mainGlobals "sum" = some none)
    (z_all : PySem.W.nsIn K mainGlobals "all" = some none)
    (z_isinstance : PySem.W.nsIn K mainGlobals "isinstance" = some none)
    (z_int : PySem.W.nsIn K mainGlobals "int" = some none)
    (z_bool : PySem.W.nsIn K mainGlobals "bool" = some none)
    (z_sorted : PySem.W.nsIn K mainGlobals "sorted" = some none)
    (z_str : PySem.W.nsIn K mainGlobals "str" = some none)
    (z_tuple : PySem.W.nsIn K mainGlobals "tuple" = some none)
    (chF : PySem.W.nsIn K cp "first" = some (some (.ref f21)))
    (chB : PySem.W.nsIn K cp "best" = some (some (.ref f22)))
    (chW : PySem.W.nsIn K cp "worst" = some (some (.ref f23)))
    (chN : PySem.W.nsIn K cp "next" = some (some (.ref f24)))
    (chH : PySem.W.nsIn K cp "halves" = some (some (.ref f11)))
    (nfC : PySem.W.notFirst K C (.ref C) = true)
    (z_any : PySem.W.nsIn K mainGlobals "any" = some none)
    (hdpB : PySem.W.codeHdIn K cB pB = true)
    (ntpB : K.lookup pB = none)
    (tbpB : h.get? pB = some (PySem.W.tabObj #[]))
    (hdpW : PySem.W.codeHdIn K cW pW = true)
    (ntpW : K.lookup pW = none)
    (tbpW : h.get? pW = some (PySem.W.tabObj #[]))
    (hdpL : PySem.W.codeHdIn K cL pL = true)
    (ntpL : K.lookup pL = none)
    (tbpL : h.get? pL = some (PySem.W.tabObj #[]))
    (nBW : pB ≠ pW)
    (nBL : pB ≠ pL)
    (nWL : pW ≠ pL) :
    LamX.LawAtS lw w K CX0 12 63 "_law_script" mg fa h := by
  have e := hfa.symm.trans (PySem.W.mg_of X G a20)
  cases e
  have F1 := fun_mk (st := sInit) l1 c1 k1
  have b1 := F1.binds (ps := ["self", "first", "many"]) fun _ _ _ _ _ _ us hl => match us, hl with | [_, _, _], _ => rfl
  have F2 := fun_mk (st := s_Run_words) l2 c2 k2
  have b2 := F2.binds (ps := ["self"]) fun _ _ _ _ _ _ us hl => match us, hl with | [_], _ => rfl
  have F18 := fun_mk (st := s_Run___contains__) l18 c18 k18
  have b18 := F18.binds (ps := ["self", "x"]) fun _ _ _ _ _ _ us hl => match us, hl with | [_, _], _ => rfl
  have F19 := fun_mk (st := s_Run___eq__) l19 c19 k19
  have b19 := F19.binds (ps := ["self", "other"]) fun _ _ _ _ _ _ us hl => match us, hl with | [_, _], _ => rfl
  have F31 := fun_mk (st := s_Space_holes) l31 c31 k31
  have b31 := F31.binds (ps := ["self"]) fun _ _ _ _ _ _ us hl => match us, hl with | [_], _ => rfl
  have F32 := fun_mk (st := s_Space_take) l32 c32 k32
  have b32 := F32.binds (ps := ["self", "many"]) fun _ _ _ _ _ _ us hl => match us, hl with | [_, _], _ => rfl
  have F33 := fun_mk (st := s_Space_choose) l33 c33 k33
  have b33 := F33.binds (ps := ["self", "many"]) fun _ _ _ _ _ _ us hl => match us, hl with | [_, _], _ => rfl
  have F34 := fun_mk (st := s_Space_occupy) l34 c34 k34
  have b34 := F34.binds (ps := ["self", "run"]) fun _ _ _ _ _ _ us hl => match us, hl with | [_, _], _ => rfl
  have F35 := fun_mk (st := s_Space_give_back) l35 c35 k35
  have b35 := F35.binds (ps := ["self", "run"]) fun _ _ _ _ _ _ us hl => match us, hl with | [_, _], _ => rfl
  have F41 := fun_mk (st := s_Space__asked) l41 c41 k41
  have b41 := F41.binds (ps := ["self", "many"]) fun _ _ _ _ _ _ us hl => match us, hl with | [_, _], _ => rfl
  have F4 := fun_mk (st := sEnd) l4 c4 k4
  have b4 := F4.binds (ps := ["self"]) fun _ _ _ _ _ _ us hl => match us, hl with | [_], _ => rfl
  have F36 := fun_mk (st := s_Space_free) l36 c36 k36
  have b36 := F36.binds (ps := ["self"]) fun _ _ _ _ _ _ us hl => match us, hl with | [_], _ => rfl
  have F37 := fun_mk (st := s_Space_mark) l37 c37 k37
  have b37 := F37.binds (ps := ["self"]) fun _ _ _ _ _ _ us hl => match us, hl with | [_], _ => rfl
  have F5 := fun_mk (st := sBetween) l5 c5 k5
  have b5 := F5.binds (ps := ["cls", "first", "end"]) fun _ _ _ _ _ _ us hl => match us, hl with | [_, _, _], _ => rfl
  have F6 := fun_mk (st := sInteger) l6 c6 k6
  have b6 := F6.binds (ps := ["value"]) fun _ _ _ _ _ _ us hl => match us, hl with | [_], _ => rfl
  have F7 := fun_mk (st := sWhole) l7 c7 k7
  have b7 := F7.binds (ps := ["value", "least", "most"]) fun _ _ _ _ _ _ us hl => match us, hl with | [_, _, _], _ => rfl
  have F8 := fun_mk (st := sBag) l8 c8 k8
  have b8 := F8.binds (ps := ["_law_script", "_law_at"]) fun _ _ _ _ _ _ us hl => match us, hl with | [_, _], _ => rfl
  have F9 := fun_mk (st := sTake) l9 c9 k9
  have b9 := F9.binds (ps := ["_law_bag_here", "_law_many"]) fun _ _ _ _ _ _ us hl => match us, hl with | [_, _], _ => rfl
  have F38 := fun_mk (st := s_holes_of) l38 c38 k38
  have b38 := F38.binds (ps := ["taken", "pages"]) fun _ _ _ _ _ _ us hl => match us, hl with | [_, _], _ => rfl
  have F39 := fun_mk (st := s_size_of) l39 c39 k39
  have b39 := F39.binds (ps := ["policy", "many"]) fun _ _ _ _ _ _ us hl => match us, hl with | [_, _], _ => rfl
  have F40 := fun_mk (st := s_answer_of) l40 c40 k40
  have b40 := F40.binds (ps := ["policy", "holes", "many", "mark"]) fun _ _ _ _ _ _ us hl => match us, hl with | [_, _, _, _], _ => rfl
  have F10 := fun_mk (st := s__power) l10 c10 k10
  have b10 := F10.binds (ps := ["many"]) fun _ _ _ _ _ _ us hl => match us, hl with | [_], _ => rfl
  have F11 := fun_mk (st := s__halves) l11 c11 k11
  have b11 := F11.binds (ps := ["holes", "many", "mark"]) fun _ _ _ _ _ _ us hl => match us, hl with | [_, _, _], _ => rfl
  have F21 := fun_mk (st := s__first) l21 c21 k21
  have b21 := F21.binds (ps := ["holes", "many", "mark"]) fun _ _ _ _ _ _ us hl => match us, hl with | [_, _, _], _ => rfl
  have F22 := fun_mk (st := s__best) l22 c22 k22
  have b22 := F22.binds (ps := ["holes", "many", "mark"]) fun _ _ _ _ _ _ us hl => match us, hl with | [_, _, _], _ => rfl
  have F23 := fun_mk (st := s__worst) l23 c23 k23
  have b23 := F23.binds (ps := ["holes", "many", "mark"]) fun _ _ _ _ _ _ us hl => match us, hl with | [_, _, _], _ => rfl
  have F24 := fun_mk (st := s__next) l24 c24 k24
  have b24 := F24.binds (ps := ["holes", "many", "mark"]) fun _ _ _ _ _ _ us hl => match us, hl with | [_, _, _], _ => rfl
  have F12 := fun_mk (st := s__law_seen) l12 c12 k12
  have b12 := F12.binds (ps := ["_law_space"]) fun _ _ _ _ _ _ us hl => match us, hl with | [_], _ => rfl
  have F13 := fun_mk (st := s__law_is_parted) l13 c13 k13
  have b13 := F13.binds (ps := ["_law_space", "_law_given", "_law_pages"]) fun _ _ _ _ _ _ us hl => match us, hl with | [_, _, _], _ => rfl
  have F14 := fun_mk (st := s__law_mixed) l14 c14 k14
  have b14 := F14.binds (ps := ["_law_bag_here", "_law_some"]) fun _ _ _ _ _ _ us hl => match us, hl with | [_, _], _ => rfl
  have F15 := fun_mk (st := s__law_asked) l15 c15 k15
  have b15 := F15.binds (ps := ["_law_space", "_law_many"]) fun _ _ _ _ _ _ us hl => match us, hl with | [_, _], _ => rfl
  have F20 := fun_mk (st := s_law) l20 c20 k20
  have F30 : FunD K "__init__" "Space.__init__" (defArgs s_Space___init__) (defBody s_Space___init__) (defScope s_Space___init__) [.str "first"] [] f30 _ := ⟨⟨_, _, _, _, _, _, _, _, _, _, rfl, l30, c30, .inr ⟨(fun z => by cases z), dt30, _, _, _, rfl, d30, rfl, (.cons ⟨_, rfl⟩ .nil)⟩, .inl rfl⟩, k30⟩
  have P4 : PropOf K C "end" pp4 f4 := ⟨p14, p24, p34, ⟨_, p44⟩⟩
  have P36 : PropOf K S "free" pp36 f36 := ⟨p136, p236, p336, ⟨_, p436⟩⟩
  have P37 : PropOf K S "mark" pp37 f37 := ⟨p137, p237, p337, ⟨_, p437⟩⟩
  have Q5 : ClX.CMet K C (.type "type") "between" pp5 f5 := ⟨q15, ⟨_, q25⟩, q35⟩
  have D6 : Def K mg "integer" f6 _ ["value"] := ⟨PySem.W.mg_of X G a6, k6, b6⟩
  have D7 : Def K mg "whole" f7 _ ["value", "least", "most"] := ⟨PySem.W.mg_of X G a7, k7, b7⟩
  have D8 : Def K mg "_law_bag" f8 _ ["_law_script", "_law_at"] := ⟨PySem.W.mg_of X G a8, k8, b8⟩
  have D9 : Def K mg "_law_take" f9 _ ["_law_bag_here", "_law_many"] := ⟨PySem.W.mg_of X G a9, k9, b9⟩
  have D38 : Def K mg "holes_of" f38 _ ["taken", "pages"] := ⟨PySem.W.mg_of X G a38, k38, b38⟩
  have D39 : Def K mg "size_of" f39 _ ["policy", "many"] := ⟨PySem.W.mg_of X G a39, k39, b39⟩
  have D40 : Def K mg "answer_of" f40 _ ["policy", "holes", "many", "mark"] := ⟨PySem.W.mg_of X G a40, k40, b40⟩
  have D10 : Def K mg "_power" f10 _ ["many"] := ⟨PySem.W.mg_of X G a10, k10, b10⟩
  have D11 : Def K mg "_halves" f11 _ ["holes", "many", "mark"] := ⟨PySem.W.mg_of X G a11, k11, b11⟩
  have D21 : Def K mg "_first" f21 _ ["holes", "many", "mark"] := ⟨PySem.W.mg_of X G a21, k21, b21⟩
  have D22 : Def K mg "_best" f22 _ ["holes", "many", "mark"] := ⟨PySem.W.mg_of X G a22, k22, b22⟩
  have D23 : Def K mg "_worst" f23 _ ["holes", "many", "mark"] := ⟨PySem.W.mg_of X G a23, k23, b23⟩
  have D24 : Def K mg "_next" f24 _ ["holes", "many", "mark"] := ⟨PySem.W.mg_of X G a24, k24, b24⟩
  have D12 : Def K mg "_law_seen" f12 _ ["_law_space"] := ⟨PySem.W.mg_of X G a12, k12, b12⟩
  have D13 : Def K mg "_law_is_parted" f13 _ ["_law_space", "_law_given", "_law_pages"] := ⟨PySem.W.mg_of X G a13, k13, b13⟩
  have D14 : Def K mg "_law_mixed" f14 _ ["_law_bag_here", "_law_some"] := ⟨PySem.W.mg_of X G a14, k14, b14⟩
  have D15 : Def K mg "_law_asked" f15 _ ["_law_space", "_law_many"] := ⟨PySem.W.mg_of X G a15, k15, b15⟩
  refine ⟨PySem.W.fnOf "law" "law" (defArgs s_law) (defBody s_law) (defScope s_law) .none kV20 dc20 pm20 an20 (.ref cL) ct20, [(cB, pB), (cW, pW), (cL, pL)], spLaw K pB pW pL, fun p hp => ?_, fun p hp => ?_, fun p hp => ?_, fun s v => .of_eq rfl, fun H a ns hn _ ht hS => ⟨a, ns, rfl, hS, hn, ht (cB, pB) (List.mem_cons_self ..), ht (cW, pW) (List.mem_cons_of_mem _ (List.mem_cons_self ..)), ht (cL, pL) (List.mem_cons_of_mem _ (List.mem_cons_of_mem _ (List.mem_singleton.mpr rfl))), fun _ => rfl⟩, fun base hb1 hb2 hb3 => ?_⟩
  · rcases List.mem_cons.mp hp with rfl | hp
    · exact tbpB
    rcases List.mem_cons.mp hp with rfl | hp
    · exact tbpW
    · rw [List.mem_singleton.mp hp]
      exact tbpL
  · rcases List.mem_cons.mp hp with rfl | hp
    · exact ntpB
    rcases List.mem_cons.mp hp with rfl | hp
    · exact ntpW
    · rw [List.mem_singleton.mp hp]
      exact ntpL
  · rcases List.mem_cons.mp hp with rfl | hp
    · exact PySem.W.codeHd_of_K X hdpB
    rcases List.mem_cons.mp hp with rfl | hp
    · exact PySem.W.codeHd_of_K X hdpW
    · rw [List.mem_singleton.mp hp]
      exact PySem.W.codeHd_of_K X hdpL
  have T : TR K mg C (.type "type") tM := ⟨⟨pg, hd, po, sa⟩, nF, nM, PySem.W.mg_of X G aC, PySem.W.mg_of X G mo, PySem.W.mg_none_of X G z_isinstance, PySem.W.mg_none_of X G z_int, PySem.W.mg_none_of X G z_bool, PySem.W.mg_none_of X G z_range, ⟨r1, r2⟩⟩
  have B : TB mg := ⟨PySem.W.mg_none_of X G z_len, PySem.W.mg_none_of X G z_abs, PySem.W.mg_none_of X G z_range, PySem.W.mg_none_of X G z_min, PySem.W.mg_none_of X G z_max, PySem.W.mg_none_of X G z_list, PySem.W.mg_none_of X G z_sum, PySem.W.mg_none_of X G z_all⟩
  have Z : IsR K C := ⟨e1, e2, e3, e4, e5⟩
  have U : TS K mg S := ⟨⟨spg, shd, spo, ssa⟩, s1, s2, s3, s4, PySem.W.mg_of X G aS, PySem.W.mg_none_of X G z_sorted, PySem.W.mg_none_of X G z_sum, PySem.W.mg_none_of X G z_str, PySem.W.mg_none_of X G z_list, PySem.W.mg_none_of X G z_tuple, PySem.W.mg_none_of X G z_max⟩
  have NN : TN lw.prog K mg CN fN cc cda docN pmN ctN := ⟨⟨PySem.F.excBase_OverflowError, PySem.F.store_OverflowError, PySem.W.kxs_OverflowError, n_qq, n_ov, n_hd, n_sa, n_ex, n_ty, n_kc, n_sb⟩, ⟨_, _, _, n_lk⟩, n_cd, ⟨_, _, _, n_lc⟩, ⟨_, _, _, _, _, _, n_co, n_vs, n_fi⟩, n_top, PySem.W.mg_none_of X G n_su, n_mr, n_si, n_op, n_tk, n_iC, n_tI, PySem.W.mg_of X G aCN, n_sP, n_ga, n_gg, n_nm⟩
  have bN : Binds K ((nfNR cc cda).fd docN pmN ctN) ["self", "many"] [] := .all fun us hl => match us, hl with | [_, _], _ => rfl
  have PA : PolAt K mg := ⟨tp, PySem.W.mg_of X G pol, fun H => .inr ⟨_, _, _, poll, rfl, rfl, (by show 5 ≤ sizeLine; decide), .cons ⟨_, rfl⟩ (.cons ⟨_, rfl⟩ (.cons ⟨_, rfl⟩ (.cons ⟨_, rfl⟩ (.cons ⟨_, rfl⟩ .nil))))⟩⟩
  obtain ⟨ds30, vd30, b30⟩ := F30.binds1 (ps := ["self", "pages", "policy"]) 3 1 (fun z => by cases z) rfl fun T kV doc pm an cdv ct us its hu hi => match us, hu, its, hi with | [_, _, _], _, [_], _ => ⟨_, rfl, rfl⟩
  cases vd30
  have MI : Mk K C f1 := ⟨mk, a1, i1, kc⟩
  have MS : Mk K S f30 := ⟨smk, a30, i30, skc⟩
  have GNi : FnOk lw.prog w K mg base CX0 1 f6 _ ["value"] (spInteger K) := ok_integer F6 T
  have GWh : FnOk lw.prog w K mg base CX0 2 f7 _ ["value", "least", "most"] (spWhole K) := ok_whole F7 GNi D6
  have GI : FnOk lw.prog w K mg base CX0 3 f1 _ ["self", "first", "many"] (spInit C) := ok_init F1 T GWh D7
  have GE : FnOk lw.prog w K mg base CX0 1 f4 _ ["self"] (spEnd C) := ok_end F4 T
  have GBw : FnOk lw.prog w K mg base CX0 5 f5 _ ["cls", "first", "end"] (spBetween C) := ok_between F5 T GWh D7 MI GI b1
  have GBR : FnR lw.prog w K mg base CX0 5 f5 (spBetween C) := (GBw.raw b5 .nil).imp fun vs H Q E z => by rw [List.append_nil]; exact z
  have GIn : FnOk lw.prog w K mg base CX0 3 f18 _ ["self", "x"] (spIn C) := ok_in F18 T GWh D7 GE b4 P4
  have GWo : GFn lw.prog w K mg base 3 f2 _ ["self"] (spWords C) := ok_words F2 T GE b4 P4
  have GS : FnOk lw.prog w K mg base CX0 1 f30 _ ["self", "pages", "policy"] (spSInit S) := ok_sinit F30 T U PA
  have GHo : FnOk lw.prog w K mg base CX0 6 f38 _ ["taken", "pages"] (spHolesOf C) := ok_holesOf (fdB := (nfNR cc cda).fd docN pmN ctN) F38 T U GBR Q5
  have GH : FnOk lw.prog w K mg base CX0 7 f31 _ ["self"] (spHoles C S) := ok_holes F31 U GHo D38
  have mH : Meth K S "holes" f31 := ⟨a31, i31, k31⟩
  have GOc : FnOk lw.prog w K mg base CX0 3 f34 _ ["self", "run"] (spOcc C S) := ok_occ F34 T U GE b4 P4
  have GGi : FnOk lw.prog w K mg base CX0 1 f35 _ ["self", "run"] (spGive C S) := ok_give F35 T Z U
  have GFr : FnOk lw.prog w K mg base CX0 1 f36 _ ["self"] (spFree S) := ok_free F36 U
  have GMa : FnOk lw.prog w K mg base CX0 1 f37 _ ["self"] (spMark S) := ok_mark F37 U
  have TBb : LamX.TabB base mg cB pB := hb3 (cB, pB) (List.mem_cons_self ..)
  have TBw : LamX.TabB base mg cW pW := hb3 (cW, pW) (List.mem_cons_of_mem _ (List.mem_cons_self ..))
  have TBl : LamX.TabB base mg cL pL := hb3 (cL, pL) (List.mem_cons_of_mem _ (List.mem_cons_of_mem _ (List.mem_singleton.mpr rfl)))
  have m1 : (pB, qB) ∈ [(pB, qB), (pW, qW), (pL, qL)] := List.mem_cons_self ..
  have m2 : (pW, qW) ∈ [(pB, qB), (pW, qW), (pL, qL)] := List.mem_cons_of_mem _ (List.mem_cons_self ..)
  have m3 : (pL, qL) ∈ [(pB, qB), (pW, qW), (pL, qL)] := List.mem_cons_of_mem _ (List.mem_cons_of_mem _ (List.mem_singleton.mpr rfl))
  have three : ∀ {M : Addr × Str → Prop}, M (pB, qB) → M (pW, qW) → M (pL, qL) → ∀ p ∈ [(pB, qB), (pW, qW), (pL, qL)], M p := fun a b c p hp => by
    rcases List.mem_cons.mp hp with rfl | hp
    · exact a
    rcases List.mem_cons.mp hp with rfl | hp
    · exact b
    · rw [List.mem_singleton.mp hp]
      exact c
  have huB : ∀ p ∈ [(pB, qB), (pW, qW), (pL, qL)], p.1 = pB → p.2 = qB := three (fun _ => rfl) (fun e => absurd e.symm nBW) (fun e => absurd e.symm nBL)
  have huW : ∀ p ∈ [(pB, qB), (pW, qW), (pL, qL)], p.1 = pW → p.2 = qW := three (fun e => absurd e nBW) (fun _ => rfl) (fun e => absurd e.symm nWL)
  have huL : ∀ p ∈ [(pB, qB), (pW, qW), (pL, qL)], p.1 = pL → p.2 = qL := three (fun e => absurd e nBL) (fun e => absurd e nWL) (fun _ => rfl)
  have GPo : FnOk lw.prog w K mg base CX0 1 f10 _ ["many"] spPow := ok_pow F10
  have GSz : FnOk lw.prog w K mg base CX0 2 f39 _ ["policy", "many"] spSize := ok_size F39 GPo D10
  have GC1 : FnOk lw.prog w K mg base CX0 3 f21 _ ["holes", "many", "mark"] (spChT [(pB, qB), (pW, qW), (pL, qL)] C pkFirst) := ok_cfirst F21 T
  have GC2 := ok_cbest (P := lw.prog) (w := w) (Ts := [(pB, qB), (pW, qW), (pL, qL)]) l22 c22 T (PySem.W.mg_none_of X G z_min) TBb m1 huB
  have GC3 := ok_cworst (P := lw.prog) (w := w) (Ts := [(pB, qB), (pW, qW), (pL, qL)]) l23 c23 T (PySem.W.mg_none_of X G z_max) TBw m2 huW
  have GC4 : FnOk lw.prog w K mg base CX0 3 f24 _ ["holes", "many", "mark"] (spChT [(pB, qB), (pW, qW), (pL, qL)] C pkNext) := chT_of (ok_next F24 T U GE b4 P4)
  have GC5 : FnOk lw.prog w K mg base CX0 3 f11 _ ["holes", "many", "mark"] (spChT [(pB, qB), (pW, qW), (pL, qL)] C pkHalves) := chT_of (ok_halves F11 T GE b4 P4)
  have GAU : FnOk lw.prog w K mg base CX0 5 f40 _ ["policy", "holes", "many", "mark"] (spAnsU [(pB, qB), (pW, qW), (pL, qL)] C) := ok_ansU fun z pk h => by
    rcases h with ⟨rfl, rfl⟩ | ⟨rfl, rfl⟩ | ⟨rfl, rfl⟩ | ⟨rfl, rfl⟩ | ⟨rfl, rfl⟩
    · exact ok_ansT F40 T MI GI b1 GSz D39 GC1 k21 b21 (PySem.W.mg_of X G cho) ⟨_, _, _, chl, chk, chF, rfl⟩ fit_first
    · exact ok_ansT F40 T MI GI b1 GSz D39 GC2 k22 b22 (PySem.W.mg_of X G cho) ⟨_, _, _, chl, chk, chB, rfl⟩ (fit_sz false)
    · exact ok_ansT F40 T MI GI b1 GSz D39 GC3 k23 b23 (PySem.W.mg_of X G cho) ⟨_, _, _, chl, chk, chW, rfl⟩ (fit_sz true)
    · exact ok_ansT F40 T MI GI b1 GSz D39 GC4 k24 b24 (PySem.W.mg_of X G cho) ⟨_, _, _, chl, chk, chN, rfl⟩ fit_next
    · exact ok_ansT F40 T MI GI b1 GSz D39 GC5 k11 b11 (PySem.W.mg_of X G cho) ⟨_, _, _, chl, chk, chH, rfl⟩ fit_halves
  have OQ : EqM lw.prog w K mg base C f19 _ := ⟨ok_eq F19 T Z, a19, i19, b19, nfC⟩
  have GQ : FnOk lw.prog w K mg base CX0 8 f41 _ ["self", "many"] (spAskF C S FL ixM) := ok_askF F41 T U GH mH b31 (lok_mid B) (fun n h => Nat.div_lt_self h (by decide)) OQ MI GI b1
  have GCo : FnOk lw.prog w K mg base (L2.CX lw.prog w) 9 f33 _ ["self", "many"] (spChooseA [(pB, qB), (pW, qW), (pL, qL)] C S CN FL ixM) := ok_chooseA F33 T U NN bN GH mH b31 GQ ⟨a41, i41, k41⟩ b41 GAU D40
  have GOcA : FnOk lw.prog w K mg base CX0 3 f34 _ ["self", "run"] (spOccA C S FL) := ok_occA F34 T U GE b4 P4
  have GTa : FnOk lw.prog w K mg base (L2.CX lw.prog w) 10 f32 _ ["self", "many"] (spTakeA [(pB, qB), (pW, qW), (pL, qL)] C S CN FL ixM) := ok_takeA F32 U GCo ⟨a33, i33, k33⟩ b33 GOcA ⟨a34, i34, k34⟩ b34
  have GSA : FnOk lw.prog w K mg base CX0 1 f30 _ ["self", "pages", "policy"] (spSInitA S FL) := ok_sinitA F30 T U PA
  exact ok_law l20 c20 T Z U B rfl TBl m3 huL ⟨ok_bag F8 B, D8⟩ ⟨ok_take F9, D9⟩ ⟨ok_seen F12 T U GH mH b31 GFr b36 P36 GMa b37 P37, D12⟩ ⟨ok_parted F13 T U B (PySem.W.mg_none_of X G z_any) GH mH b31 GFr b36 P36 GE b4 P4, D13⟩ ⟨ok_mixed F14 B (ok_take F9) D9, D14⟩
    ⟨ok_lask F15 U NN GTa ⟨a32, i32, k32⟩ b32, D15⟩ MS GSA b30 GGi ⟨a35, i35, k35⟩ b35 OQ
theorem walk {l : PySem.W.OpenLaw} {q : Program} {loose : List Str} {XP : (Str → Option Value) → Heap → Prop} {YP : World → Heap → Prop} {d : DefRec} {K : Params → PySem.W.Frag} (hn : l.most = some 63) (hdf : d.params.defaults = [])
    (hY : ∀ (w : World) (h : Heap), YP w h → (K w.params).In h)
    (F : ∀ (w : World) (mg : Str → Option Value) (fa : Addr) (h : Heap), YP w h → (K w.params).In h → h.Ns mainGlobals mg → mg d.name = some (.ref fa) → LamX.LawAtS l w (K w.params) CX0 12 63 "_law_script" mg fa h) :
    PySem.W.WalkO q loose XP YP l.row.toRowW d [] (fun f vs => PySem.call f vs) :=
  LamX.walk_ofTs (n := 63) (k := 12) (x := "_law_script") (CX := fun _ => CX0) hn (by decide) hdf ⟨rfl, by decide, by decide⟩ hY F fun _ _ _ _ _ z => z
end Sc

open PySem PySem.W PyProof.Rows
set_option maxRecDepth 100000 in
set_option maxHeartbeats 0 in
theorem PySem.Challenge.cw_devicewindows_k14_whole_returns_in_any_o_holds : PySem.Challenge.rw_devicewindows_k14_whole_returns_in_any_o.Holds := by
  w_on; o_law; k_head; (case hw => w_witness2)
  k_fill
  refine Sc.walk (l := PySem.Challenge.rw_devicewindows_k14_whole_returns_in_any_o) rfl rfl (fun w h Y => by first | exact PySem.W.kIn_of Y | exact PySem.W.km_in_of Y) ?F
  case F =>
    intro w mg fa h Y KX G hmg
    refine' Sc.all_mk (pB := 228) (pW := 235) (pL := 400) KX G hmg ?aC ?aS ?aCN ?a1 ?i1 ?a2 ?i2 ?a18 ?i18 ?a19 ?i19 ?a31 ?i31 ?a32 ?i32 ?a33 ?i33 ?a34 ?i34 ?a35 ?i35 ?a41 ?i41 ?a30 ?i30 ?p14 ?p24 ?p34 ?p44 ?p136 ?p236 ?p336 ?p436 ?p137 ?p237 ?p337 ?p437 ?q15 ?q25 ?q35 ?a6 ?a7 ?a8 ?a9 ?a38 ?a39 ?a40 ?a10 ?a11 ?a21 ?a22 ?a23 ?a24 ?a12 ?a13 ?a14 ?a15 ?a20 ?l1 ?c1 ?k1 ?l2 ?c2 ?k2 ?l18 ?c18 ?k18 ?l19 ?c19 ?k19 ?l31 ?c31 ?k31 ?l32 ?c32 ?k32 ?l33 ?c33 ?k33 ?l34 ?c34 ?k34 ?l35 ?c35 ?k35 ?l41 ?c41 ?k41 ?l4 ?c4 ?k4 ?l36 ?c36 ?k36 ?l37 ?c37 ?k37 ?l5 ?c5 ?k5 ?l6 ?c6 ?k6 ?l7 ?c7 ?k7 ?l8 ?c8 ?k8 ?l9 ?c9 ?k9 ?l38 ?c38 ?k38 ?l39 ?c39 ?k39 ?l40 ?c40 ?k40 ?l10 ?c10 ?k10 ?l11 ?c11 ?k11 ?l21 ?c21 ?k21 ?l22 ?c22 ?k22 ?l23 ?c23 ?k23 ?l24 ?c24 ?k24 ?l12 ?c12 ?k12 ?l13 ?c13 ?k13 ?l14 ?c14 ?k14 ?l15 ?c15 ?k15 ?l20 ?c20 ?k20 ?l30 ?c30 ?k30 ?d30 ?pg ?hd ?po ?sa ?mk ?kc ?nF ?nM ?r1 ?r2 ?mo ?e1 ?e2 ?e3 ?e4 ?e5 ?spg ?shd ?spo ?ssa ?smk ?skc ?s1 ?s2 ?s3 ?s4 ?n_qq ?n_ov ?n_hd ?n_sa ?n_ex ?n_ty ?n_kc ?n_sb ?n_iC ?n_lk ?n_cd ?n_lc ?n_co ?n_vs ?n_fi ?n_top ?n_su ?n_mr ?n_si ?n_op ?n_tk ?n_tI ?n_sP ?n_ga ?n_gg ?n_nm ?pol ?poll ?cho ?chl ?chk ?z_len ?z_abs ?z_range ?z_min ?z_max ?z_list ?z_sum ?z_all ?z_isinstance ?z_int ?z_bool ?z_sorted ?z_str ?z_tuple ?chF ?chB ?chW ?chN ?chH ?nfC ?z_any ?hdpB ?ntpB ?tbpB ?hdpW ?ntpW ?tbpW ?hdpL ?ntpL ?tbpL ?nBW ?nBL ?nWL
    (case aC => k_is)
    (case aS => k_is)
    (case aCN => k_is)
    (case a1 => k_is)
    (case i1 => k_is)
    (case a2 => k_is)
    (case i2 => k_is)
    (case a18 => k_is)
    (case i18 => k_is)
    (case a19 => k_is)
    (case i19 => k_is)
    (case a31 => k_is)
    (case i31 => k_is)
    (case a32 => k_is)
    (case i32 => k_is)
    (case a33 => k_is)
    (case i33 => k_is)
    (case a34 => k_is)
    (case i34 => k_is)
    (case a35 => k_is)
    (case i35 => k_is)
    (case a41 => k_is)
    (case i41 => k_is)
    (case a30 => k_is)
    (case i30 => k_is)
    (case p14 => k_is)
    (case p24 => k_is)
    (case p34 => k_is)
    (case p44 => k_is)
    (case p136 => k_is)
    (case p236 => k_is)
    (case p336 => k_is)
    (case p436 => k_is)
    (case p137 => k_is)
    (case p237 => k_is)
    (case p337 => k_is)
    (case p437 => k_is)
    (case q15 => k_is)
    (case q25 => k_is)
    (case q35 => k_is)
    (case a6 => k_is)
    (case a7 => k_is)
    (case a8 => k_is)
    (case a9 => k_is)
    (case a38 => k_is)
    (case a39 => k_is)
    (case a40 => k_is)
    (case a10 => k_is)
    (case a11 => k_is)
    (case a21 => k_is)
    (case a22 => k_is)
    (case a23 => k_is)
    (case a24 => k_is)
    (case a12 => k_is)
    (case a13 => k_is)
    (case a14 => k_is)
    (case a15 => k_is)
    (case a20 => k_is)
    (case l1 => k_is)
    (case c1 => k_is)
    (case k1 => k_is)
    (case l2 => k_is)
    (case c2 => k_is)
    (case k2 => k_is)
    (case l18 => k_is)
    (case c18 => k_is)
    (case k18 => k_is)
    (case l19 => k_is)
    (case c19 => k_is)
    (case k19 => k_is)
    (case l31 => k_is)
    (case c31 => k_is)
    (case k31 => k_is)
    (case l32 => k_is)
    (case c32 => k_is)
    (case k32 => k_is)
    (case l33 => k_is)
    (case c33 => k_is)
    (case k33 => k_is)
    (case l34 => k_is)
    (case c34 => k_is)
    (case k34 => k_is)
    (case l35 => k_is)
    (case c35 => k_is)
    (case k35 => k_is)
    (case l41 => k_is)
    (case c41 => k_is)
    (case k41 => k_is)
    (case l4 => k_is)
    (case c4 => k_is)
    (case k4 => k_is)
    (case l36 => k_is)
    (case c36 => k_is)
    (case k36 => k_is)
    (case l37 => k_is)
    (case c37 => k_is)
    (case k37 => k_is)
    (case l5 => k_is)
    (case c5 => k_is)
    (case k5 => k_is)
    (case l6 => k_is)
    (case c6 => k_is)
    (case k6 => k_is)
    (case l7 => k_is)
    (case c7 => k_is)
    (case k7 => k_is)
    (case l8 => k_is)
    (case c8 => k_is)
    (case k8 => k_is)
    (case l9 => k_is)
    (case c9 => k_is)
    (case k9 => k_is)
    (case l38 => k_is)
    (case c38 => k_is)
    (case k38 => k_is)
    (case l39 => k_is)
    (case c39 => k_is)
    (case k39 => k_is)
    (case l40 => k_is)
    (case c40 => k_is)
    (case k40 => k_is)
    (case l10 => k_is)
    (case c10 => k_is)
    (case k10 => k_is)
    (case l11 => k_is)
    (case c11 => k_is)
    (case k11 => k_is)
    (case l21 => k_is)
    (case c21 => k_is)
    (case k21 => k_is)
    (case l22 => k_is)
    (case c22 => k_is)
    (case k22 => k_is)
    (case l23 => k_is)
    (case c23 => k_is)
    (case k23 => k_is)
    (case l24 => k_is)
    (case c24 => k_is)
    (case k24 => k_is)
    (case l12 => k_is)
    (case c12 => k_is)
    (case k12 => k_is)
    (case l13 => k_is)
    (case c13 => k_is)
    (case k13 => k_is)
    (case l14 => k_is)
    (case c14 => k_is)
    (case k14 => k_is)
    (case l15 => k_is)
    (case c15 => k_is)
    (case k15 => k_is)
    (case l20 => k_is)
    (case c20 => k_is)
    (case k20 => k_is)
    (case l30 => k_is)
    (case c30 => k_is)
    (case k30 => k_is)
    (case d30 => k_is)
    (case pg => k_is)
    (case hd => k_is)
    (case po => k_is)
    (case sa => k_is)
    (case mk => k_is)
    (case kc => k_is)
    (case nF => k_is)
    (case nM => k_is)
    (case r1 => k_is)
    (case r2 => k_is)
    (case mo => k_is)
    (case e1 => k_is)
    (case e2 => k_is)
    (case e3 => k_is)
    (case e4 => k_is)
    (case e5 => first | kernel_rfl | rfl | decide +kernel)
    (case spg => k_is)
    (case shd => k_is)
    (case spo => k_is)
    (case ssa => k_is)
    (case smk => k_is)
    (case skc => k_is)
    (case s1 => k_is)
    (case s2 => k_is)
    (case s3 => k_is)
    (case s4 => k_is)
    (case n_qq => first | kx_is | k_is | kernel_rfl)
    (case n_ov => first | kx_is | k_is | kernel_rfl)
    (case n_hd => k_is)
    (case n_sa => k_is)
    (case n_ex => k_is)
    (case n_ty => k_is)
    (case n_kc => k_is)
    (case n_sb => k_is)
    (case n_iC => k_is)
    (case n_lk => k_is)
    (case n_cd => k_is)
    (case n_lc => k_is)
    (case n_co => k_is)
    (case n_vs => first | rfl | k_is | kernel_rfl)
    (case n_fi => first | rfl | kernel_rfl | decide +kernel)
    (case n_top => first | rfl | kernel_rfl | decide +kernel)
    (case n_su => k_is)
    (case n_mr => k_is)
    (case n_si => first | k_is | kernel_rfl | rfl)
    (case n_op => k_is)
    (case n_tk => k_is)
    (case n_tI => k_is)
    (case n_sP => k_is)
    (case n_ga => k_is)
    (case n_gg => k_is)
    (case n_nm => k_is)
    (case pol => k_is)
    (case poll => k_is)
    (case cho => k_is)
    (case chl => k_is)
    (case chk => first | exact ⟨⟨_, _, rfl, rfl⟩, ⟨_, _, rfl, rfl⟩, ⟨_, _, rfl, rfl⟩, ⟨_, _, rfl, rfl⟩, ⟨_, _, rfl, rfl⟩, trivial⟩ | k_is)
    (case z_len => k_is)
    (case z_abs => k_is)
    (case z_range => k_is)
    (case z_min => k_is)
    (case z_max => k_is)
    (case z_list => k_is)
    (case z_sum => k_is)
    (case z_all => k_is)
    (case z_isinstance => k_is)
    (case z_int => k_is)
    (case z_bool => k_is)
    (case z_sorted => k_is)
    (case z_str => k_is)
    (case z_tuple => k_is)
    (case chF => k_is)
    (case chB => k_is)
    (case chW => k_is)
    (case chN => k_is)
    (case chH => k_is)
    (case nfC => k_is)
    (case z_any => k_is)
    (case hdpB => first | k_is | kernel_rfl)
    (case ntpB => first | k_is | kernel_rfl)
    (case tbpB => exact PySem.W.km_tabs_of Y _ (by decide))
    (case hdpW => first | k_is | kernel_rfl)
    (case ntpW => first | k_is | kernel_rfl)
    (case tbpW => exact PySem.W.km_tabs_of Y _ (by decide))
    (case hdpL => first | k_is | kernel_rfl)
    (case ntpL => first | k_is | kernel_rfl)
    (case tbpL => exact PySem.W.km_tabs_of Y _ (by decide))
    (case nBW => decide)
    (case nBL => decide)
    (case nWL => decide)
